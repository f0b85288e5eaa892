import PyProof.Rows.All
import Wide.All
import OpenK.AllK
import Wide.FinOn
import PyProof.EqAt
import PyProof.EqKinds
import PyProof.TupleCall
import KE.BitLaws
import Open.SpecLaws
import KE.OsHead
import KE.OsGo
import KE.KSortTupG
import PyFlatLaws
import PySem.Challenge.RW_soundboard_s01_answers
set_option Elab.async false
set_option linter.all false
set_option maxRecDepth 100000
/-! THE HAND LAYER, for ints, bools, texts, own classes, lists, tuples, dicts, comprehensions, walks over dicts, enumerate, zip, reversed, texts, calls, loops. Paste it whole ahead of your own text; what your proof does not reach may be deleted. -/
namespace L2
open PySem PySem.Spec PyProof.Rows

/-- a key: an int or a str -/
abbrev Key := Sum Int Str
def keyIs : Key → Value → Bool
  | .inl k, v => Value.isInt k v
  | .inr x, v => Value.isStrOf x v
def keyH (w : World) : Key → Int
  | .inl k => hashInt k
  | .inr x => hashStr w x
theorem keyIs_shape : ∀ {k : Key} {v : Value}, keyIs k v = true → (∃ i t, k = Sum.inl i ∧ v = Value.int i t) ∨ (∃ x t, k = Sum.inr x ∧ v = Value.str x t)
  | .inl i, v, h => by
    obtain ⟨t, e⟩ := Value.isInt_shape (k := i) (v := v) h
    exact .inl ⟨i, t, rfl, e⟩
  | .inr x, v, h => by
    obtain ⟨t, e⟩ := Value.isStrOf_shape (x := x) (v := v) h
    exact .inr ⟨x, t, rfl, e⟩
theorem keyIs_int (i : Int) (t : Tok) : keyIs (.inl i) (.int i t) = true := by simp [keyIs, Value.isInt]
theorem keyIs_str (x : Str) (t : Tok) : keyIs (.inr x) (.str x t) = true := by simp [keyIs, Value.isStrOf]
theorem key_ll (a b : Int) : decide ((Sum.inl a : Key) = Sum.inl b) = (a == b) := by
  by_cases e : a = b
  · subst e; simp
  · have h : ¬ (Sum.inl a : Key) = Sum.inl b := fun q => e (Sum.inl.inj q)
    rw [decide_eq_false h]
    exact (beq_eq_false_iff_ne.mpr e).symm
theorem key_rr (a b : Str) : decide ((Sum.inr a : Key) = Sum.inr b) = decide (a = b) := by
  by_cases e : a = b
  · subst e; simp
  · have h : ¬ (Sum.inr a : Key) = Sum.inr b := fun q => e (Sum.inr.inj q)
    rw [decide_eq_false h, decide_eq_false e]
theorem key_lr (a : Int) (b : Str) : decide ((Sum.inl a : Key) = Sum.inr b) = false := decide_eq_false (fun q => nomatch q)
theorem key_rl (a : Str) (b : Int) : decide ((Sum.inr a : Key) = Sum.inl b) = false := decide_eq_false (fun q => nomatch q)

def mixKind (prog : Program) (w : World) : PySem.KeyKind prog w Key where
  is := keyIs
  hash := keyH w
  inj := fun v a b ha hb => by
    rcases keyIs_shape ha with ⟨i, t, rfl, rfl⟩ | ⟨x, t, rfl, rfl⟩
    · rcases keyIs_shape hb with ⟨j, u, rfl, e⟩ | ⟨y, u, rfl, e⟩
      · injection e with e1 _; rw [e1]
      · exact nomatch e
    · rcases keyIs_shape hb with ⟨j, u, rfl, e⟩ | ⟨y, u, rfl, e⟩
      · exact nomatch e
      · injection e with e1 _; rw [e1]
  byValue := fun k v h => by
    rcases keyIs_shape h with ⟨i, t, rfl, rfl⟩ | ⟨x, t, rfl, rfl⟩ <;> rfl
  pyHash := fun hv h => by
    rcases keyIs_shape hv with ⟨i, t, rfl, rfl⟩ | ⟨x, t, rfl, rfl⟩
    · exact wpAny_pyHash_int h
    · exact wpAny_pyHash_str h
  eqBool := fun hu hv h => by
    rcases keyIs_shape hu with ⟨i, t, rfl, rfl⟩ | ⟨x, t, rfl, rfl⟩
    · rcases keyIs_shape hv with ⟨j, u, rfl, rfl⟩ | ⟨y, u, rfl, rfl⟩
      · rw [key_ll] at h; exact wpAny_eqBool_int h
      · rw [key_lr] at h; exact SeqAt.EqAt.int_str i t y u _ _ _ _ h
    · rcases keyIs_shape hv with ⟨j, u, rfl, rfl⟩ | ⟨y, u, rfl, rfl⟩
      · rw [key_rl] at h; exact SeqAt.EqAt.str_int x t j u _ _ _ _ h
      · rw [key_rr] at h; exact wpAny_eqBool_str h
  «strs» := fun k x t v h => by
    rcases keyIs_shape h with ⟨i, u, rfl, e⟩ | ⟨y, u, rfl, e⟩
    · exact nomatch e
    · injection e with e1 _
      subst e1
      cases v <;> rfl

theorem mixKind_int (prog : Program) (w : World) (i : Int) (t : Tok) : (mixKind prog w).is (.inl i) (.int i t) = true := keyIs_int i t
theorem mixKind_str (prog : Program) (w : World) (x : Str) (t : Tok) : (mixKind prog w).is (.inr x) (.str x t) = true := keyIs_str x t
end L2

namespace L2
open PySem PySem.Spec PyProof.Rows

/-- a value, without the heap -/
inductive V where
  | non | bl (b : Bool) | int (i : Int) | str (x : Str) | byt (b : Array UInt8) | flt (b : UInt64) | ref (a : Addr) | ty (n : String)
  deriving DecidableEq

def RelV : V → Value → Prop
  | .non, u => u = Value.none
  | .bl b, u => u = Value.bool b
  | .int i, u => ∃ t, u = Value.int i t
  | .str x, u => ∃ t, u = Value.str x t
  | .byt b, u => ∃ t, u = Value.bytes b t
  | .flt b, u => ∃ t, u = Value.float b t
  | .ref a, u => u = Value.ref a
  | .ty n, u => u = Value.type n

abbrev Vals : List V → List Value → Prop := Paired RelV
theorem Vals.length {xs : List V} {us : List Value} (r : Vals xs us) : xs.length = us.length := Paired.length r
theorem Vals.get : ∀ {xs : List V} {us : List Value} {i : Nat} {x : V}, Vals xs us → xs[i]? = some x → ∃ u, us[i]? = some u ∧ RelV x u
  | _, _, _, _, .nil, e => by simp at e
  | _, _, 0, _, .cons r _, e => by simp at e; subst e; exact ⟨_, rfl, r⟩
  | _, _, i + 1, x, .cons _ t, e => by
    obtain ⟨u, h1, h2⟩ := Vals.get (i := i) (x := x) t (by simpa using e)
    exact ⟨u, by simpa using h1, h2⟩
theorem Vals.set {x : V} {u : Value} (r : RelV x u) : ∀ {xs : List V} {us : List Value} (i : Nat), Vals xs us → Vals (xs.set i x) (us.set i u)
  | _, _, _, .nil => .nil
  | _, _, 0, .cons _ t => .cons r t
  | _, _, i + 1, .cons q t => .cons q (Vals.set r i t)
theorem Vals.append : ∀ {xs ys : List V} {us ws : List Value}, Vals xs us → Vals ys ws → Vals (xs ++ ys) (us ++ ws)
  | _, _, _, _, .nil, s => s
  | _, _, _, _, .cons r t, s => .cons r (Vals.append t s)
theorem Vals.take : ∀ {xs : List V} {us : List Value} (n : Nat), Vals xs us → Vals (xs.take n) (us.take n)
  | _, _, 0, _ => .nil
  | _, _, _ + 1, .nil => .nil
  | _, _, n + 1, .cons r t => .cons r (Vals.take n t)
theorem Vals.drop : ∀ {xs : List V} {us : List Value} (n : Nat), Vals xs us → Vals (xs.drop n) (us.drop n)
  | _, _, 0, r => r
  | _, _, _ + 1, .nil => .nil
  | _, _, n + 1, .cons _ t => Vals.drop n t

def RelO : Option V → Option Value → Prop
  | some v, some u => RelV v u
  | none, none => True
  | _, _ => False
def KV {κ : Type} : List (κ × V) → List (κ × Value) → Prop := Paired fun (p : κ × V) (q : κ × Value) => p.1 = q.1 ∧ RelV p.2 q.2

/-- a key of a dict (00_mix): an int or a text -/
def kV : Key → V
  | .inl i => .int i
  | .inr x => .str x

/-- what stands at a tracked address -/
inductive HO where
  /-- a list -/
  | lst (xs : List V)
  /-- a tuple (never changes) -/
  | tup (xs : List V)
  /-- a dict whose keys are ints and texts; one whose keys are tuples of ints and texts (the empty one is both) -/
  | dK (kvs : List (Key × V)) | dT (kvs : List (List Key × V))
  /-- a set of ints: its members, its size -/
  | set (S : Int → Bool) (n : Nat)
  /-- an instance of the class at C, its dict at dx, its attributes -/
  | ins (C dx : Addr) (fs : List (Str × V))
  /-- the dict of the instance at x -/
  | own (x : Addr)
  /-- the dict of an exception -/
  | xd (fs : List (Str × V))
  /-- a bound method, f of x -/
  | met (f x : Addr)
  /-- a range object lo, lo + 1, .. below hi -/
  | rng (lo hi : Int)
  /-- a thing that is known to the object (the script; a dict while a loop walks it): read, never written while it is so -/
  | frz (o : Obj) (u : HO)
  /-- a code object's table -/
  | tbl (ps : Array Value)
  /-- any other thing, by what is true of its one object (a def of one's own: SetO a S n := HO.ext fun h => ..) -/
  | ext (φ : Heap → Prop)

abbrev Hp := Addr → Option HO
def upd (H : Hp) (a : Addr) (o : HO) : Hp := fun b => if b = a then some o else H b
theorem upd_same {H : Hp} {a : Addr} {o : HO} : upd H a o a = some o := by unfold upd; rw [if_pos rfl]
theorem upd_ne {H : Hp} {a b : Addr} {o : HO} (h : b ≠ a) : upd H a o b = H b := by unfold upd; rw [if_neg h]
theorem upd_upd {H : Hp} {a : Addr} {o u : HO} : upd (upd H a o) a u = upd H a u := by
  funext b; unfold upd; split <;> rfl
/-- two objects of different content stand apart -/
theorem ne_of {H : Hp} {a b : Addr} {o u : HO} (h : H a = some o) (h' : H b = some u) (d : o ≠ u) : a ≠ b := by
  intro e; subst e; rw [h] at h'; exact d (Option.some.inj h')
theorem ne_of_none {H : Hp} {a b : Addr} {o : HO} (h : H a = some o) (h' : H b = none) : a ≠ b := by
  intro e; subst e; rw [h] at h'; cases h'

section
variable (P : Program) (w : World)
def ObjOk (H : Hp) (h : Heap) (a : Addr) : HO → Prop
  | .lst xs => xs.length ≤ sizeLine ∧ ∃ (its : List Value) (n : Nat), Vals xs its ∧ h.get? a = some { cls := .type "list", data := .seq its.toArray n }
  | .tup xs => xs.length ≤ sizeLine ∧ ∃ its : List Value, Vals xs its ∧ IsTup h a its.toArray
  | .dK kvs => kvs.length ≤ sizeLine ∧ (a == sysModules) = false ∧ ∃ vs, KV kvs vs ∧ h.DictOf (mixKind P w) a vs
  | .dT kvs => kvs.length ≤ sizeLine ∧ (a == sysModules) = false ∧ ∃ xs : List (List Key × Addr × Value),
      Paired (fun (p : List Key × V) (q : List Key × Addr × Value) => p.1 = q.1 ∧ H q.2.1 = some (.tup (p.1.map kV)) ∧ RelV p.2 q.2.2) kvs xs ∧
      ∃ o es ep, h.get? a = some o ∧ o.ExactDict ∧ o.data = .dict es ep ∧ es.toList = xs.map (entryOfKey (tupleKind (mixKind P w))) ∧ (xs.map (·.1)).Nodup
  | .set S n => h.SetOf (intKind P w) a S n
  | .ins C dx fs => H dx = some (.own a) ∧ fs.length ≤ 1000 ∧ dx ≠ a ∧ h.get? a = some (PySem.W.instObj C dx) ∧
      ∃ mA, h.Ns1 dx mA ∧ (∀ f, RelO (fs.lookup f) (mA f)) ∧ PySem.Within mA (fs.map (·.1))
  | .own _ => ∃ o, h.get? a = some o
  | .xd fs => ∃ mA, h.Ns1 a mA ∧ ∀ f, RelO (fs.lookup f) (mA f)
  | .rng lo hi => ∃ t u v, h.get? a = some { cls := .type "range", data := .fields #[.int lo t, .int hi u, .int 1 v] }
  | .frz o u => h.get? a = some o ∧ ObjOk H h a u
  | .tbl ps => h.get? a = some { cls := .none, data := .fields ps }
  | .met f x => h.get? a = some (PySem.W.methodObj (.ref f) (.ref x))
  | .ext φ => φ h ∧ (∃ o, h.get? a = some o) ∧ ∀ h1 h2 : Heap, φ h1 → (∀ o, h1.get? a = some o → h2.get? a = some o) → φ h2
/-- the abstract heap is held -/
def HOk (H : Hp) (h : Heap) : Prop := ∀ a o, H a = some o → ObjOk P w H h a o
end

section
variable {P : Program} {w : World} {H H' : Hp} {h h' : Heap} {a : Addr} {o : HO}
theorem ObjOk.lt (x : ObjOk P w H h a o) : a < h.objs.size := by
  cases o with
  | lst xs => obtain ⟨_, _, _, _, e⟩ := x; exact Heap.lt_size e
  | tup xs => obtain ⟨_, _, _, p⟩ := x; exact p.lt
  | dK kvs => obtain ⟨_, _, _, _, o, _, _, e, _⟩ := x; exact Heap.lt_size e
  | dT kvs => obtain ⟨_, _, _, _, o, _, _, e, _⟩ := x; exact Heap.lt_size e
  | set S n => obtain ⟨o, _, _, _, e, _⟩ := x; exact Heap.lt_size e
  | ins C dx fs => obtain ⟨_, _, _, e, _⟩ := x; exact Heap.lt_size e
  | own y => obtain ⟨_, e⟩ := x; exact Heap.lt_size e
  | xd fs => obtain ⟨_, ⟨_, _, _, e, _⟩, _⟩ := x; exact Heap.lt_size e
  | rng lo hi => obtain ⟨_, _, _, e⟩ := x; exact Heap.lt_size e
  | frz ob u => obtain ⟨e, _⟩ := x; exact Heap.lt_size e
  | tbl ps => exact Heap.lt_size (show h.get? a = some _ from x)
  | met f y => exact Heap.lt_size (show h.get? a = some _ from x)
  | ext φ => obtain ⟨_, ⟨_, e⟩, _⟩ := x; exact Heap.lt_size e
theorem Paired.mapP {α β : Type} {F G : α → β → Prop} : ∀ {l₁ : List α} {l₂ : List β}, Paired F l₁ l₂ → (∀ a b, F a b → G a b) → Paired G l₁ l₂
  | _, _, .nil, _ => .nil
  | _, _, .cons r t, f => .cons (f _ _ r) (Paired.mapP t f)
/-- what an object's description leans on: its own object, its own dict, the tuples -/
theorem ObjOk.stay (x : ObjOk P w H h a o) (k : ∀ b u, (b = a ∨ H b = some (.own a)) → h.get? b = some u → h'.get? b = some u)
    (ho : ∀ b, H b = some (.own a) → H' b = some (.own a)) (ht : ∀ b xs, H b = some (.tup xs) → H' b = some (.tup xs)) : ObjOk P w H' h' a o := by
  induction o with
  | lst xs => obtain ⟨z, its, n, r, e⟩ := x; exact ⟨z, its, n, r, k _ _ (.inl rfl) e⟩
  | tup xs => obtain ⟨z, its, r, ob, e, c⟩ := x; exact ⟨z, its, r, ob, k _ _ (.inl rfl) e, c⟩
  | dK kvs => obtain ⟨z, y, vs, r, ob, es, ep, e, c⟩ := x; exact ⟨z, y, vs, r, ob, es, ep, k _ _ (.inl rfl) e, c⟩
  | dT kvs =>
    obtain ⟨z, y, xs, r, ob, es, ep, e, c⟩ := x
    exact ⟨z, y, xs, Paired.mapP r fun p q z => ⟨z.1, ht _ _ z.2.1, z.2.2⟩, ob, es, ep, k _ _ (.inl rfl) e, c⟩
  | set S n => obtain ⟨ob, es, ep, t, e, c⟩ := x; exact ⟨ob, es, ep, t, k _ _ (.inl rfl) e, c⟩
  | ins C dx fs =>
    obtain ⟨d, z, ne, e, mA, ⟨od, es, ep, e2, c⟩, r⟩ := x
    exact ⟨ho _ d, z, ne, k _ _ (.inl rfl) e, mA, ⟨od, es, ep, k _ _ (.inr d) e2, c⟩, r⟩
  | own y => obtain ⟨ob, e⟩ := x; exact ⟨ob, k _ _ (.inl rfl) e⟩
  | xd fs => obtain ⟨mA, ⟨od, es, ep, e, c⟩, r⟩ := x; exact ⟨mA, ⟨od, es, ep, k _ _ (.inl rfl) e, c⟩, r⟩
  | rng lo hi => obtain ⟨t, u, v, e⟩ := x; exact ⟨t, u, v, k _ _ (.inl rfl) e⟩
  | frz ob u ih => obtain ⟨e, q⟩ := x; exact ⟨k _ _ (.inl rfl) e, ih q⟩
  | tbl ps =>
    have e : h.get? a = some { cls := .none, data := .fields ps } := x
    show h'.get? a = some { cls := .none, data := .fields ps }
    exact k a _ (.inl rfl) e
  | met f y =>
    have e : h.get? a = some (PySem.W.methodObj (.ref f) (.ref y)) := x
    show h'.get? a = some (PySem.W.methodObj (.ref f) (.ref y))
    exact k a _ (.inl rfl) e
  | ext φ => obtain ⟨p, ⟨o, e⟩, st⟩ := x; exact ⟨st _ _ p fun o q => k _ _ (.inl rfl) q, ⟨o, k _ _ (.inl rfl) e⟩, st⟩
theorem HOk.lt (x : HOk P w H h) (e : H a = some o) : a < h.objs.size := (x a o e).lt
theorem HOk.fresh (x : HOk P w H h) (e : h.objs.size ≤ a) : H a = none := by
  cases q : H a with
  | none => rfl
  | some u => exact absurd (Nat.lt_of_lt_of_le (x.lt q) e) (Nat.lt_irrefl _)
/-- every object of the heap is kept -/
theorem HOk.kept (x : HOk P w H h) (k : ∀ b u, h.get? b = some u → h'.get? b = some u) : HOk P w H h' := fun a o e =>
  (x a o e).stay (fun b u _ q => k b u q) (fun _ q => q) fun _ _ q => q
/-- a new object is laid and tracked -/
theorem HOk.laid (x : HOk P w H h) (k : ∀ b u, h.get? b = some u → h'.get? b = some u) (hp : h.objs.size ≤ a) (new : ObjOk P w (upd H a o) h' a o) : HOk P w (upd H a o) h' := fun b u e => by
  have hn := x.fresh hp
  by_cases hb : b = a
  · subst hb; rw [upd_same] at e; cases e; exact new
  · rw [upd_ne hb] at e
    exact (x b u e).stay (fun c v _ q => k c v q) (fun c q => by rw [upd_ne (ne_of_none q hn)]; exact q) fun c xs q => by rw [upd_ne (ne_of_none q hn)]; exact q
end

/-- what may be read as u: it is u, or a known u -/
def Rd (H : Hp) (a : Addr) (u : HO) : Prop := H a = some u ∨ ∃ o, H a = some (.frz o u)
theorem Rd.ok {P : Program} {w : World} {H : Hp} {h : Heap} {a : Addr} {u : HO} (r : Rd H a u) (x : HOk P w H h) : ObjOk P w H h a u := by
  rcases r with r | ⟨o, r⟩
  · exact x a u r
  · obtain ⟨_, q⟩ := x a _ r
    exact q
/-- what may be written -/
def Mut : Option HO → Prop
  | some (.lst _) => True
  | some (.dK _) => True
  | some (.dT _) => True
  | some (.set _ _) => True
  | some (.ins _ _ _) => True
  | some (.ext _) => True
  | _ => False
section
variable {P : Program} {w : World} {H : Hp} {h h' : Heap} {x e : Addr} {o' : HO}
/-- the object at e is changed: x itself, or the dict of the instance x -/
theorem HOk.write (ok : HOk P w H h) (mu : Mut (H x)) (he : e = x ∨ H e = some (.own x)) (k : ∀ b u, b ≠ e → h.get? b = some u → h'.get? b = some u) (heo : ∃ u, h'.get? e = some u)
    (new : ObjOk P w (upd H x o') h' x o') : HOk P w (upd H x o') h' := fun b u q => by
  have nown : ∀ c y, H c = some (.own y) → c ≠ x := fun c y r z => by subst z; rw [r] at mu; exact mu
  have ntup : ∀ c xs, H c = some (.tup xs) → c ≠ x := fun c xs r z => by subst z; rw [r] at mu; exact mu
  by_cases hb : b = x
  · subst hb; rw [upd_same] at q; cases q; exact new
  · rw [upd_ne hb] at q
    by_cases hbe : b = e
    · have q' : H b = some (.own x) := by
        rcases he with z | z
        · exact absurd (hbe.trans z) hb
        · rw [hbe]; exact z
      rw [q] at q'; cases q'
      obtain ⟨v, hv⟩ := heo
      exact ⟨v, by rw [hbe]; exact hv⟩
    · refine (ok b u q).stay (fun c v hc r => k c v ?_ r) (fun c r => by rw [upd_ne (nown c b r)]; exact r) fun c xs r => by rw [upd_ne (ntup c xs r)]; exact r
      rcases hc with rfl | hc
      · exact hbe
      · rintro rfl
        rcases he with z | z
        · exact nown c b hc z
        · rw [hc] at z; cases z; exact hb rfl
end

/-! ### kept unless tracked; of the frames at fs (the callers') the slots may change (an exception that passes writes there); of the records at ex (iterators) nothing is said -/
structure Un (fs ex : List Addr) (H H' : Hp) (h h' : Heap) : Prop where
  keep : ∀ b o, h.get? b = some o → H b = none → b ∉ fs → b ∉ ex → h'.get? b = some o
  slot : ∀ b o, h.get? b = some o → H b = none → b ∈ fs → b ∉ ex → ∃ sl, h'.get? b = some { o with slots := sl }
  free : ∀ b o, h.get? b = some o → H b = none → b ∉ ex → H' b = none
  there : ∀ b o, h.get? b = some o → b ∉ ex → ∃ o', h'.get? b = some o'
  tups : ∀ b xs, H b = some (.tup xs) → H' b = some (.tup xs)
  frzs : ∀ b o u, H b = some (.frz o u) → H' b = some (.frz o u)
  tbls : ∀ b ps, H b = some (.tbl ps) → ∃ more, H' b = some (.tbl (ps ++ more))
section
variable {fs fs' ex ex' : List Addr} {H H1 H2 : Hp} {h h1 h2 h' : Heap} {a x e : Addr} {o : HO}
theorem Un.any (u : Un fs ex H H1 h h1) {b : Addr} {ob : Obj} (q : h.get? b = some ob) (n : H b = none) (hx : b ∉ ex) : ∃ sl, h1.get? b = some { ob with slots := sl } := by
  by_cases hb : b ∈ fs
  · exact u.slot b ob q n hb hx
  · exact ⟨ob.slots, u.keep b ob q n hb hx⟩
theorem Un.kept (k : ∀ b u, h.get? b = some u → h'.get? b = some u) : Un fs ex H H h h' :=
  ⟨fun b ob q _ _ _ => k b ob q, fun b ob q _ _ _ => ⟨ob.slots, k b ob q⟩, fun _ _ _ n _ => n, fun b ob q _ => ⟨ob, k b ob q⟩, fun _ _ q => q, fun _ _ _ q => q, fun _ ps q => ⟨#[], by rw [q]; simp⟩⟩
theorem Un.refl : Un fs ex H H h h := Un.kept fun _ _ q => q
theorem Un.laid (k : ∀ b u, h.get? b = some u → h'.get? b = some u) (hp : h.objs.size ≤ a) (hn : H a = none) : Un fs ex H (upd H a o) h h' where
  keep := fun b u q _ _ _ => k b u q
  slot := fun b u q _ _ _ => ⟨u.slots, k b u q⟩
  free := fun b u q n _ => by rw [upd_ne (Nat.ne_of_lt (Nat.lt_of_lt_of_le (Heap.lt_size q) hp))]; exact n
  there := fun b u q _ => ⟨u, k b u q⟩
  tups := fun b xs q => by rw [upd_ne (ne_of_none q hn)]; exact q
  frzs := fun b u xs q => by rw [upd_ne (ne_of_none q hn)]; exact q
  tbls := fun b ps q => ⟨#[], by rw [upd_ne (ne_of_none q hn), q]; simp⟩
theorem Un.write (mu : Mut (H x)) (he : e = x ∨ H e = some (.own x)) (k : ∀ b u, b ≠ e → h.get? b = some u → h'.get? b = some u) (heo : ∃ u, h'.get? e = some u) : Un fs ex H (upd H x o) h h' := by
  have hx : ∀ b, H b = none → b ≠ x := fun b n z => by subst z; rw [n] at mu; exact mu
  have hb : ∀ b, H b = none → b ≠ e := fun b n z => by
    subst z
    rcases he with r | r
    · exact hx b n r
    · rw [n] at r; cases r
  have hm : ∀ b u, H b = some u → ¬ Mut (some u) → b ≠ x := fun b u q nm z => by subst z; rw [q] at mu; exact nm mu
  refine ⟨fun b u q n _ _ => k b u (hb b n) q, fun b u q n _ _ => ⟨u.slots, k b u (hb b n) q⟩, fun b u q n _ => by rw [upd_ne (hx b n)]; exact n, fun b u q _ => ?_,
    fun b xs q => by rw [upd_ne (hm b _ q fun z => z)]; exact q, fun b u xs q => by rw [upd_ne (hm b _ q fun z => z)]; exact q, fun b ps q => ⟨#[], by rw [upd_ne (hm b _ q fun z => z), q]; simp⟩⟩
  by_cases hbe : b = e
  · subst hbe; exact heo
  · exact ⟨u, k b u hbe q⟩
end

/-! ### the heap without what is tracked -/
def trk (h : Heap) (H : Hp) : List Addr := (List.range h.objs.size).filter fun a => (H a).isSome
def hidT (h : Heap) (H : Hp) : Heap := PySem.W.hideAll h (trk h H)
theorem hidT_size (h : Heap) (H : Hp) : (hidT h H).objs.size = h.objs.size := PySem.W.hideAll_size _ _
theorem hidT_get {h : Heap} {H : Hp} {b : Addr} {o : Obj} (e : h.get? b = some o) (n : H b = none) : (hidT h H).get? b = some o :=
  PySem.W.hideAll_get _ e fun hm => by
    have q : (H b).isSome = true := (List.mem_filter.mp hm).2
    rw [n] at q; simp at q
theorem of_hidT {h : Heap} {H : Hp} {b : Addr} {o : Obj} (e : (hidT h H).get? b = some o) : h.get? b = some o ∧ H b = none := by
  have e' : h.get? b = some o := PySem.W.of_hideAll (trk h H) e
  refine ⟨e', ?_⟩
  cases q : H b with
  | none => rfl
  | some x =>
    have hm : b ∈ trk h H := List.mem_filter.mpr ⟨List.mem_range.mpr (Heap.lt_size e'), by simp [q]⟩
    have z : (hidT h H).get? b = none := PySem.W.hideAll_none (trk h H) hm
    rw [z] at e; cases e

end L2

namespace L2
open PySem PySem.Spec PyProof.Rows

/-- the module's facts, over the base: the heap at the law's entry without what is tracked there -/
structure Mod (K : PySem.W.Frag) (mg : Str → Option Value) (base : Heap) : Prop where
  kin : K.In base
  glob : base.Ns mainGlobals mg
  blt : ∃ mb, base.Ns builtinsNs mb ∧ ∀ x : Str, x ≠ "__name__" → mb x = bootBuiltins x
  nolimit : base.NoLimit

/-- the context: a def's body (or a comprehension's block) running. base: fixed through the whole law; s₀, H₀: the entry; outer: the frames whose slots others may change (a def's callers); stack: all frames that run;
   ex: iterators that were made ahead of the entry and are walked here (a comprehension's); fn: the names whose cells were made at the entry (a def: all; a comprehension's block: its own); calm: not within an except suite; pn: pins that every state bears; xe: what is wanted of an exception that leaves the code -/
structure Cx where
  prog : Program
  w : World
  K : PySem.W.Frag
  mg : Str → Option Value
  base : Heap
  A : Around
  N : List Str
  s_0 : Shared
  H_0 : Hp
  env : Env
  outer : List Env
  stack : List Env
  ex : List Addr
  fn : Str → Bool
  calm : Bool
  pn : List (Addr × Obj)
  xe : Value → Shared → Prop
/-- the callers' frames -/
def frs (l : List Env) : List Addr := l.filterMap (·.frame)
abbrev Cx.fs (X : Cx) : List Addr := frs X.outer

def Vis (sc : Scope) (x : Str) : Prop := sc.names.lookup x = some .local ∨ sc.names.lookup x = some .cell ∨ sc.names.lookup x = some .free
def Loc (sc : Scope) (x : Str) : Prop := sc.names.lookup x = some .local ∨ sc.names.lookup x = some .cell
def Look (env : Env) (h : Heap) (m : Str → Option Value) (x : Str) (u : Value) : Prop :=
  (env.kindOf x = some .local ∧ m x = some u) ∨ ((env.kindOf x = some .cell ∨ env.kindOf x = some .free) ∧ ∃ c, env.cells.lookup x = some c ∧ h.IsCell c (some u))

structure Cx.Ok (X : Cx) : Prop where
  mod : Mod X.K X.mg X.base
  kind : X.env.scope.kind = .function
  glob : X.env.globals = mainGlobals
  blt : X.env.builtins = builtinsNs
  above : X.s_0.heap.objs.size ≤ X.env.locals
  inj : ∀ x y c, X.env.cells.lookup x = some c → X.env.cells.lookup y = some c → x = y
  has : ∀ x, (X.env.kindOf x = some .cell ∨ X.env.kindOf x = some .free) → ∃ c, X.env.cells.lookup x = some c
  cab : ∀ x c, X.fn x = true → X.env.cells.lookup x = some c → X.s_0.heap.objs.size ≤ c
  hd : X.calm = true → X.A.handled = none
  frames : X.A.frames = some X.stack
  stk : X.stack = X.outer ∨ (X.stack = X.env :: X.outer ∧ X.env.frame = some X.env.locals)
  exf : ∀ b ∈ X.ex, b ≠ X.env.locals ∧ ∀ x c, X.env.cells.lookup x = some c → c ≠ b
  bs : ∀ b o, X.base.get? b = some o → X.s_0.heap.get? b = some o ∧ X.H_0 b = none
  bsz : X.base.objs.size ≤ X.s_0.heap.objs.size
  noex : ∀ b o, X.base.get? b = some o → b ∉ X.ex
  exfs : ∀ b ∈ X.ex, b ∉ X.fs
  funs : X.s_0.heap.FunFrames X.base X.outer
  frf : ∀ b ∈ X.fs, X.H_0 b = none

structure Inv (X : Cx) (pins : List (Addr × Obj)) (σ : List (Option V)) (H : Hp) (s : Shared) : Prop where
  ok : X.Ok
  os : s.os = X.s_0.os
  bare : AllBare s.gens
  base : Un X.fs X.ex X.H_0 H X.s_0.heap s.heap
  loc : ∃ m, s.heap.Ns X.env.locals m ∧ ∀ (i : Nat) (x : Str) (v : V), X.N[i]? = some x → σ[i]? = some (some v) → Vis X.env.scope x → ∃ u, RelV v u ∧ Look X.env s.heap m x u
  cell : ∀ x c, X.env.cells.lookup x = some c → ∃ v, s.heap.IsCell c v
  free : H X.env.locals = none
  freeC : ∀ x c, X.env.cells.lookup x = some c → H c = none
  pin : ∀ p ∈ X.pn ++ pins, s.heap.get? p.1 = some p.2 ∧ H p.1 = none ∧ p.1 ≠ X.env.locals ∧ p.1 ∉ X.fs ∧ ∀ v, p.2.data ≠ .cell v
  hok : HOk X.prog X.w H s.heap
  len : σ.length = X.N.length

section
variable {X : Cx} {pins : List (Addr × Obj)} {σ : List (Option V)} {H H' : Hp} {s : Shared} {h' : Heap}

theorem Cx.Ok.nofr (ok : X.Ok) {b : Addr} {o : Obj} (e : X.base.get? b = some o) : b ∉ X.fs := fun hb => by
  have := (ok.funs.mem hb).1
  rw [e] at this; cases this
theorem Inv.bs (I : Inv X pins σ H s) : ∀ b o, X.base.get? b = some o → s.heap.get? b = some o ∧ H b = none := fun b o e =>
  ⟨I.base.keep b o (I.ok.bs b o e).1 (I.ok.bs b o e).2 (I.ok.nofr e) (I.ok.noex b o e), I.base.free b o (I.ok.bs b o e).1 (I.ok.bs b o e).2 (I.ok.noex b o e)⟩
theorem Inv.bk (I : Inv X pins σ H s) : ∀ b o, X.base.get? b = some o → s.heap.get? b = some o := fun b o e => (I.bs b o e).1
theorem Inv.mod (I : Inv X pins σ H s) : Mod X.K X.mg X.base := I.ok.mod
theorem Inv.kIn (I : Inv X pins σ H s) : X.K.In s.heap := I.ok.mod.kin.keeps I.bk
/-- the frame over the base: for OpenK's rules (K.In X.base is I.mod.kin) -/
theorem Inv.fr (I : Inv X pins σ H s) : ∃ m, Fr X.base X.env.locals s.heap m :=
  let ⟨m, hn, _⟩ := I.loc
  ⟨m, hn, I.bk, Nat.le_trans I.ok.bsz I.ok.above⟩
theorem Inv.lt (I : Inv X pins σ H s) : X.env.locals < s.heap.objs.size := let ⟨_, hn, _⟩ := I.loc; hn.lt
theorem Inv.sz (I : Inv X pins σ H s) : X.s_0.heap.objs.size ≤ s.heap.objs.size := Nat.le_trans I.ok.above (Nat.le_of_lt I.lt)
theorem Inv.nofs (I : Inv X pins σ H s) {a : Addr} (h : s.heap.objs.size ≤ a) : a ∉ X.fs := fun hb => by
  obtain ⟨_, o, ho, _⟩ := I.ok.funs.mem hb
  exact absurd (Nat.lt_of_lt_of_le (Heap.lt_size ho) (Nat.le_trans I.sz h)) (Nat.lt_irrefl _)
theorem Inv.cne (I : Inv X pins σ H s) : ∀ x c, X.env.cells.lookup x = some c → c ≠ X.env.locals := fun x c e z => by
  obtain ⟨v, o, ho, hd⟩ := I.cell x c e
  obtain ⟨m, ⟨o', es, ep, ho', hd', _⟩, _⟩ := I.loc
  rw [z, ho'] at ho; cases ho; rw [hd'] at hd; cases hd
theorem Inv.funs (I : Inv X pins σ H s) : s.heap.FunFrames X.base X.outer := by
  have all : ∀ (l : List Env), (∀ b ∈ frs l, b ∈ X.fs) → X.s_0.heap.FunFrames X.base l → s.heap.FunFrames X.base l := by
    intro l
    induction l with
    | nil => intro _ _; trivial
    | cons env r ih =>
      intro hs hl
      obtain ⟨hk, ⟨L, o, hf, hn, ho, hd⟩, hr⟩ := hl
      have hL : L ∈ X.fs := hs L (by unfold frs; rw [List.filterMap_cons, hf]; exact List.mem_cons_self)
      obtain ⟨sl, e⟩ := I.base.slot L o ho (I.ok.frf L hL) hL fun z => I.ok.exfs L z hL
      exact ⟨hk, ⟨L, _, hf, hn, e, hd⟩, ih (fun b hb => hs b (by unfold frs; rw [List.filterMap_cons, hf]; exact List.mem_cons_of_mem _ hb)) hr⟩
  exact all X.outer (fun _ hb => hb) I.ok.funs

/-- the frames that run, for a call -/
theorem Inv.stack (I : Inv X pins σ H s) : s.heap.FunFrames X.base X.stack := by
  rcases I.ok.stk with e | ⟨e, hf⟩
  · rw [e]; exact I.funs
  · rw [e]
    obtain ⟨m, hn, _⟩ := I.loc
    refine .cons (by rw [I.ok.kind]; decide) hf hn ?_ I.funs
    exact Heap.get?_none_of_le (Nat.le_trans I.ok.bsz I.ok.above)
theorem Inv.stkSub (I : Inv X pins σ H s) : ∀ b ∈ frs X.stack, b ∈ X.env.locals :: X.fs := fun b hb => by
  rcases I.ok.stk with e | ⟨e, hf⟩
  · rw [e] at hb; exact List.mem_cons_of_mem _ hb
  · rw [e] at hb
    unfold frs at hb
    rw [List.filterMap_cons, hf] at hb
    exact hb
theorem Inv.stkFree (I : Inv X pins σ H s) : ∀ b ∈ frs X.stack, H b = none := fun b hb => by
  rcases List.mem_cons.mp (I.stkSub b hb) with e | hb
  · rw [e]; exact I.free
  · obtain ⟨_, o, ho, _⟩ := I.ok.funs.mem hb
    exact I.base.free b o ho (I.ok.frf b hb) fun z => I.ok.exfs b z hb

/-- THE STEP: the untracked objects but the frame and the records at ch are kept (the callers' frames up to slots), the frame's map is kept, the new abstract heap is held -/
theorem Inv.step {g' : Array GenState} {t' : Nat} {d' : Drawn} {ch : List Addr} (I : Inv X pins σ H s)
    (hch : ∀ b ∈ ch, (b ∈ X.ex ∨ X.s_0.heap.objs.size ≤ b) ∧ b ≠ X.env.locals ∧ (∀ x c, X.env.cells.lookup x = some c → c ≠ b) ∧ ∀ p ∈ X.pn ++ pins, p.1 ≠ b)
    (keep : ∀ b o, b ≠ X.env.locals → b ∉ X.fs → b ∉ ch → s.heap.get? b = some o → H b = none → h'.get? b = some o)
    (slot : ∀ b o, b ≠ X.env.locals → b ∈ X.fs → b ∉ ch → s.heap.get? b = some o → H b = none → ∃ sl, h'.get? b = some { o with slots := sl }) (free : ∀ b o, b ∉ ch → s.heap.get? b = some o → H b = none → H' b = none)
    (there : ∀ b o, b ∉ ch → s.heap.get? b = some o → ∃ o', h'.get? b = some o')
    (tups : ∀ b xs, H b = some (.tup xs) → H' b = some (.tup xs)) (frzs : ∀ b o u, H b = some (.frz o u) → H' b = some (.frz o u)) (tbls : ∀ b ps, H b = some (.tbl ps) → ∃ more, H' b = some (.tbl (ps ++ more)))
    (ns : ∀ m, s.heap.Ns X.env.locals m → h'.Ns X.env.locals m) (hok : HOk X.prog X.w H' h') (hg : AllBare g') :
    Inv X pins σ H' { s with heap := h', gens := g', drawn := d', toks := t' } := by
  have neL : ∀ b o, X.s_0.heap.get? b = some o → b ≠ X.env.locals := fun b o e => Nat.ne_of_lt (Nat.lt_of_lt_of_le (Heap.lt_size e) I.ok.above)
  have neC : ∀ b o, X.s_0.heap.get? b = some o → b ∉ X.ex → b ∉ ch := fun b o e hx hb => by
    rcases (hch b hb).1 with z | z
    · exact hx z
    · exact absurd (Nat.lt_of_lt_of_le (Heap.lt_size e) z) (Nat.lt_irrefl _)
  have cellK : ∀ x c, X.env.cells.lookup x = some c → ∀ v, s.heap.IsCell c v → h'.IsCell c v := fun x c e v ⟨o, ho, hd⟩ => by
    have nch : c ∉ ch := fun z => (hch c z).2.2.1 x c e rfl
    by_cases hc : c ∈ X.fs
    · obtain ⟨sl, q⟩ := slot c o (I.cne x c e) hc nch ho (I.freeC x c e)
      exact ⟨_, q, hd⟩
    · exact ⟨o, keep c o (I.cne x c e) hc nch ho (I.freeC x c e), hd⟩
  refine ⟨I.ok, I.os, hg, ⟨fun b o e n hb hx => ?_, fun b o e n hb hx => ?_, fun b o e n hx => ?_, fun b o e hx => ?_, fun b xs e => tups b xs (I.base.tups b xs e), fun b o xs e => frzs b o xs (I.base.frzs b o xs e), fun b ps e => ?_⟩, ?_, fun x c e => ?_, ?_, fun x c e => ?_, fun p hp => ?_, hok, I.len⟩
  · exact keep b o (neL b o e) hb (neC b o e hx) (I.base.keep b o e n hb hx) (I.base.free b o e n hx)
  · obtain ⟨sl, e1⟩ := I.base.slot b o e n hb hx
    obtain ⟨sl', e2⟩ := slot b _ (neL b o e) hb (neC b o e hx) e1 (I.base.free b o e n hx)
    exact ⟨sl', e2⟩
  · obtain ⟨o', e1⟩ := I.base.there b o e hx
    exact free b o' (neC b o e hx) e1 (I.base.free b o e n hx)
  · obtain ⟨o', e1⟩ := I.base.there b o e hx
    exact there b o' (neC b o e hx) e1
  · obtain ⟨m1, e1⟩ := I.base.tbls b ps e
    obtain ⟨m2, e2⟩ := tbls b _ e1
    exact ⟨m1 ++ m2, by rw [e2, Array.append_assoc]⟩
  · obtain ⟨m, hn, hl⟩ := I.loc
    refine ⟨m, ns m hn, fun i x v e1 e2 e3 => ?_⟩
    obtain ⟨u, r, l⟩ := hl i x v e1 e2 e3
    refine ⟨u, r, ?_⟩
    rcases l with l | ⟨k, c, e, z⟩
    · exact .inl l
    · exact .inr ⟨k, c, e, cellK x c e _ z⟩
  · obtain ⟨v, z⟩ := I.cell x c e
    exact ⟨v, cellK x c e v z⟩
  · obtain ⟨m, ⟨o, _, _, ho, _⟩, _⟩ := I.loc
    exact free _ o (fun z => (hch _ z).2.1 rfl) ho I.free
  · obtain ⟨v, o, ho, hd⟩ := I.cell x c e
    exact free c o (fun z => (hch c z).2.2.1 x c e rfl) ho (I.freeC x c e)
  · obtain ⟨e, n, ne, nf, d⟩ := I.pin p hp
    have nch : p.1 ∉ ch := fun z => (hch p.1 z).2.2.2 p hp rfl
    exact ⟨keep p.1 p.2 ne nf nch e n, free p.1 p.2 nch e n, ne, nf, d⟩
/-- .. where the frame's own object is kept too -/
theorem Inv.un {t' : Nat} (I : Inv X pins σ H s) (u : Un X.fs [] H H' s.heap h') (hok : HOk X.prog X.w H' h') : Inv X pins σ H' { s with heap := h', toks := t' } := by
  obtain ⟨m, ⟨o, es, ep, ho, r⟩, _⟩ := id I.loc
  obtain ⟨sl, hL⟩ := u.any ho I.free (by simp)
  exact I.step (g' := s.gens) (d' := s.drawn) (ch := []) (fun _ z => nomatch z) (fun b o _ hb _ e n => u.keep b o e n hb (by simp)) (fun b o _ hb _ e n => u.slot b o e n hb (by simp)) (fun b o _ e n => u.free b o e n (by simp)) (fun b o _ e => u.there b o e (by simp)) u.tups u.frzs u.tbls (fun m' hm => by
    obtain ⟨o', es', ep', ho', r'⟩ := hm
    rw [ho] at ho'; cases ho'
    exact ⟨_, es', ep', hL, r'⟩) hok I.bare
/-- behind a call (or a comprehension's block): the slots of this frame may have changed too, the records at ch may have turned -/
theorem Inv.call {g' : Array GenState} {t' : Nat} {d' : Drawn} {ch : List Addr} (I : Inv X pins σ H s) (u : Un (frs X.stack) ch H H' s.heap h') (hok : HOk X.prog X.w H' h') (hg : AllBare g')
    (hch : ∀ b ∈ ch, (b ∈ X.ex ∨ X.s_0.heap.objs.size ≤ b) ∧ b ≠ X.env.locals ∧ (∀ x c, X.env.cells.lookup x = some c → c ≠ b) ∧ ∀ p ∈ X.pn ++ pins, p.1 ≠ b) :
    Inv X pins σ H' { s with heap := h', gens := g', drawn := d', toks := t' } := by
  obtain ⟨m, ⟨o, es, ep, ho, r⟩, _⟩ := id I.loc
  obtain ⟨sl, hL⟩ := u.any ho I.free fun z => (hch _ z).2.1 rfl
  exact I.step (ch := ch) hch (fun b o hL hb hc e n => u.keep b o e n (fun z => (List.mem_cons.mp (I.stkSub b z)).elim hL hb) hc) (fun b o _ _ hc e n => u.any e n hc) (fun b o hc e n => u.free b o e n hc) (fun b o hc e => u.there b o e hc) u.tups u.frzs u.tbls (fun m' hm => by
    obtain ⟨o', es', ep', ho', r'⟩ := hm
    rw [ho] at ho'; cases ho'
    exact ⟨_, es', ep', hL, r'⟩) hok hg
/-- an untracked record of ours (an iterator) has turned -/
theorem Inv.turned {t' : Nat} {it : Addr} (I : Inv X pins σ H s) (k : ∀ b o, b ≠ it → s.heap.get? b = some o → h'.get? b = some o) (hn : H it = none) (hL : it ≠ X.env.locals)
    (h1 : it ∈ X.ex ∨ X.s_0.heap.objs.size ≤ it) (h2 : ∀ x c, X.env.cells.lookup x = some c → c ≠ it) (h3 : ∀ p ∈ X.pn ++ pins, p.1 ≠ it) : Inv X pins σ H { s with heap := h', toks := t' } := by
  have nit : ∀ b u, H b = some u → b ≠ it := fun b u e z => by rw [z, hn] at e; cases e
  refine I.step (g' := s.gens) (d' := s.drawn) (ch := [it]) (fun b hb => ?_) (fun b o _ _ hc e _ => k b o (fun z => hc (by simp [z])) e) (fun b o _ _ hc e _ => ⟨o.slots, k b o (fun z => hc (by simp [z])) e⟩) (fun _ _ _ _ n => n)
    (fun b o hc e => ⟨o, k b o (fun z => hc (by simp [z])) e⟩) (fun _ _ e => e) (fun _ _ _ e => e) (fun b ps e => ⟨#[], by rw [e]; simp⟩) (fun m hm => ?_) (fun b u e => ?_) I.bare
  · have e : b = it := by simpa using hb
    subst e
    exact ⟨h1, hL, h2, h3⟩
  · obtain ⟨o, es, ep, ho, r⟩ := hm
    exact ⟨o, es, ep, k _ o (Ne.symm hL) ho, r⟩
  · refine (I.hok b u e).stay (fun c v hc q => k c v ?_ q) (fun _ q => q) fun _ _ q => q
    rcases hc with z | z
    · rw [z]; exact nit b u e
    · exact nit c _ z
theorem Inv.tok (I : Inv X pins σ H s) (t : Nat) : Inv X pins σ H { s with toks := t } := I.un (h' := s.heap) (t' := t) Un.refl I.hok
/-- all objects kept -/
theorem Inv.kept {t' : Nat} (I : Inv X pins σ H s) (k : ∀ b u, s.heap.get? b = some u → h'.get? b = some u) : Inv X pins σ H { s with heap := h', toks := t' } := I.un (Un.kept k) (I.hok.kept k)
/-- a new object laid and tracked -/
theorem Inv.laid {a : Addr} {o : HO} {t' : Nat} (I : Inv X pins σ H s) (k : ∀ b u, s.heap.get? b = some u → h'.get? b = some u) (hp : s.heap.objs.size ≤ a) (new : ObjOk X.prog X.w (upd H a o) h' a o) :
    Inv X pins σ (upd H a o) { s with heap := h', toks := t' } := I.un (Un.laid k hp (I.hok.fresh hp)) (I.hok.laid k hp new)
/-- an object written -/
theorem Inv.write {x e : Addr} {o : HO} {t' : Nat} (I : Inv X pins σ H s) (mu : Mut (H x)) (he : e = x ∨ H e = some (.own x)) (k : ∀ b u, b ≠ e → s.heap.get? b = some u → h'.get? b = some u) (heo : ∃ u, h'.get? e = some u)
    (new : ObjOk X.prog X.w (upd H x o) h' x o) : Inv X pins σ (upd H x o) { s with heap := h', toks := t' } := I.un (Un.write mu he k heo) (I.hok.write mu he k heo new)
/-- forgetting slots, pins -/
theorem Inv.weak {σ' : List (Option V)} (I : Inv X pins σ H s) (hl : σ'.length = σ.length) (w : ∀ (i : Nat) v, σ'[i]? = some (some v) → σ[i]? = some (some v)) : Inv X pins σ' H s :=
  ⟨I.ok, I.os, I.bare, I.base, let ⟨m, hn, hl'⟩ := I.loc; ⟨m, hn, fun i x v e1 e2 e3 => hl' i x v e1 (w i v e2) e3⟩, I.cell, I.free, I.freeC, I.pin, I.hok, hl.trans I.len⟩
theorem Inv.pins_of {pins' : List (Addr × Obj)} (I : Inv X pins σ H s) (h : ∀ p ∈ pins', s.heap.get? p.1 = some p.2 ∧ H p.1 = none ∧ p.1 ≠ X.env.locals ∧ p.1 ∉ X.fs ∧ ∀ v, p.2.data ≠ .cell v) : Inv X pins' σ H s :=
  ⟨I.ok, I.os, I.bare, I.base, I.loc, I.cell, I.free, I.freeC, fun p hp => (List.mem_append.mp hp).elim (fun z => I.pin p (List.mem_append_left _ z)) (h p), I.hok, I.len⟩

theorem nodup_ix {N : List Str} (hN : N.Nodup) {i j : Nat} {x : Str} (a : N[i]? = some x) (b : N[j]? = some x) : i = j := by
  obtain ⟨h1, e1⟩ := List.getElem?_eq_some_iff.mp a
  obtain ⟨h2, e2⟩ := List.getElem?_eq_some_iff.mp b
  exact (List.getElem_inj hN).mp (e1.trans e2.symm)

/-- a name is stored; what changed -/
theorem store_ok2 {M : Model} {A : Around} {E : Value → Shared → Prop} {i : Nat} {x : Str} {v : V} {u : Value} {Q : Unit → Shared → Prop} (I : Inv X pins σ H s) (hN : X.N.Nodup) (hi : X.N[i]? = some x) (hx : Loc X.env.scope x) (r : RelV v u)
    (h : ∀ s', Inv X pins (σ.set i (some v)) H s' → (∃ a, Heap.SameBut a s.heap s'.heap ∧ (a = X.env.locals ∨ X.env.cells.lookup x = some a)) → Q () s') (hf : X.fn x = true ∨ X.env.scope.names.lookup x = some .local := by first | exact .inl rfl | exact .inr rfl | assumption) : wpAny M A (storeName X.env x u) Q E s := by
  obtain ⟨m, hn, hl⟩ := id I.loc
  have hcls : (X.env.scope.kind == .class || (X.env.scope.kind == .module && X.env.locals != X.env.globals)) = false := by rw [I.ok.kind]; rfl
  have hiσ : i < σ.length := by rw [I.len]; exact (List.getElem?_eq_some_iff.mp hi).1
  have cne := I.cne
  have tracked : ∀ {a : Addr} {h' : Heap}, (∃ o, s.heap.get? a = some o ∧ H a = none) → Heap.SameBut a s.heap h' → HOk X.prog X.w H h' := fun {a h'} ha hs b ob e => by
    obtain ⟨_, _, hfree⟩ := ha
    refine (I.hok b ob e).stay (fun c w' hc q => (hs.2 c ?_).trans q) (fun _ q => q) fun _ _ q => q
    rintro rfl
    rcases hc with rfl | hc
    · rw [hfree] at e; cases e
    · rw [hfree] at hc; cases hc
  rcases hx with hk | hk
  · refine wpAny_storeName_local hk hn (fun h' hn' hs => ?_) hcls
    obtain ⟨oL, _, _, hoL, _⟩ := id hn
    refine h _ ⟨I.ok, I.os, I.bare, ⟨fun b o e n hb hx => ?_, fun b o e n hb hx => ?_, I.base.free, fun b o e hx => ?_, I.base.tups, I.base.frzs, I.base.tbls⟩, ⟨_, hn', fun j y v' e1 e2 e3 => ?_⟩, fun y c e => ?_, I.free, I.freeC, fun p hp => ?_, tracked ⟨oL, hoL, I.free⟩ hs, by simpa using I.len⟩ ⟨_, hs, .inl rfl⟩
    · exact (hs.2 b (Nat.ne_of_lt (Nat.lt_of_lt_of_le (Heap.lt_size e) I.ok.above))).trans (I.base.keep b o e n hb hx)
    · obtain ⟨sl, e1⟩ := I.base.slot b o e n hb hx
      exact ⟨sl, (hs.2 b (Nat.ne_of_lt (Nat.lt_of_lt_of_le (Heap.lt_size e) I.ok.above))).trans e1⟩
    · obtain ⟨o', e1⟩ := I.base.there b o e hx
      exact ⟨o', (hs.2 b (Nat.ne_of_lt (Nat.lt_of_lt_of_le (Heap.lt_size e) I.ok.above))).trans e1⟩
    · by_cases hj : j = i
      · subst hj
        rw [hi] at e1; cases e1
        rw [List.getElem?_set_self hiσ] at e2
        cases e2
        exact ⟨u, r, .inl ⟨hk, by simp⟩⟩
      · rw [List.getElem?_set_ne (Ne.symm hj)] at e2
        obtain ⟨u', r', q⟩ := hl j y v' e1 e2 e3
        refine ⟨u', r', ?_⟩
        rcases q with ⟨k, e⟩ | ⟨k, c, e, z⟩
        · refine .inl ⟨k, ?_⟩
          have : y ≠ x := fun e => hj (nodup_ix hN e1 (e ▸ hi))
          simp [this, e]
        · exact .inr ⟨k, c, e, z.sameBut hs (cne y c e)⟩
    · obtain ⟨w', z⟩ := I.cell y c e
      exact ⟨w', z.sameBut hs (cne y c e)⟩
    · obtain ⟨e, n, ne, nf, d⟩ := I.pin p hp
      exact ⟨(hs.2 p.1 ne).trans e, n, ne, nf, d⟩
  · have hfn : X.fn x = true := by
      rcases hf with z | z
      · exact z
      · rw [z] at hk; cases hk
    obtain ⟨c, hc⟩ := I.ok.has x (.inl hk)
    obtain ⟨w', z⟩ := I.cell x c hc
    refine wpAny_storeName_cell I.ok.kind hk hc z (fun h' hc' hs => ?_)
    obtain ⟨oc, hoc, hocd⟩ := id z
    refine h { s with heap := h' } ⟨I.ok, I.os, I.bare, ⟨fun b o e n hb hx => ?_, fun b o e n hb hx => ?_, I.base.free, fun b o e hx => ?_, I.base.tups, I.base.frzs, I.base.tbls⟩, ⟨m, hn.sameBut hs (Ne.symm (cne x c hc)), fun j y v' e1 e2 e3 => ?_⟩, fun y c' e => ?_, I.free, I.freeC, fun p hp => ?_, tracked ⟨oc, hoc, I.freeC x c hc⟩ hs, by simpa using I.len⟩ ⟨c, hs, .inr hc⟩
    · exact (hs.2 b (Nat.ne_of_lt (Nat.lt_of_lt_of_le (Heap.lt_size e) (I.ok.cab x c hfn hc)))).trans (I.base.keep b o e n hb hx)
    · obtain ⟨sl, e1⟩ := I.base.slot b o e n hb hx
      exact ⟨sl, (hs.2 b (Nat.ne_of_lt (Nat.lt_of_lt_of_le (Heap.lt_size e) (I.ok.cab x c hfn hc)))).trans e1⟩
    · obtain ⟨o', e1⟩ := I.base.there b o e hx
      exact ⟨o', (hs.2 b (Nat.ne_of_lt (Nat.lt_of_lt_of_le (Heap.lt_size e) (I.ok.cab x c hfn hc)))).trans e1⟩
    · by_cases hj : j = i
      · subst hj
        rw [hi] at e1; cases e1
        rw [List.getElem?_set_self hiσ] at e2
        cases e2
        exact ⟨u, r, .inr ⟨.inl hk, c, hc, hc'⟩⟩
      · rw [List.getElem?_set_ne (Ne.symm hj)] at e2
        obtain ⟨u', r', q⟩ := hl j y v' e1 e2 e3
        refine ⟨u', r', ?_⟩
        rcases q with q | ⟨k, c', e, z'⟩
        · exact .inl q
        · refine .inr ⟨k, c', e, z'.sameBut hs ?_⟩
          rintro rfl
          exact hj (nodup_ix hN e1 (I.ok.inj _ _ _ e hc ▸ hi))
    · by_cases hcc : c' = c
      · subst hcc; exact ⟨_, hc'⟩
      · obtain ⟨w2, z2⟩ := I.cell y c' e
        exact ⟨w2, z2.sameBut hs hcc⟩
    · obtain ⟨e, n, ne, nf, d⟩ := I.pin p hp
      refine ⟨(hs.2 p.1 ?_).trans e, n, ne, nf, d⟩
      intro q
      rw [q, hoc] at e
      have q' : oc = p.2 := Option.some.inj e
      exact d w' (by rw [← q']; exact hocd)
theorem store_ok {M : Model} {A : Around} {E : Value → Shared → Prop} {i : Nat} {x : Str} {v : V} {u : Value} {Q : Unit → Shared → Prop} (I : Inv X pins σ H s) (hN : X.N.Nodup) (hi : X.N[i]? = some x) (hx : Loc X.env.scope x) (r : RelV v u)
    (h : ∀ s', Inv X pins (σ.set i (some v)) H s' → Q () s') (hf : X.fn x = true ∨ X.env.scope.names.lookup x = some .local := by first | exact .inl rfl | exact .inr rfl | assumption) : wpAny M A (storeName X.env x u) Q E s :=
  store_ok2 I hN hi hx r (fun s' I' _ => h s' I') hf
/-- behind a call or a block, the state as it is -/
theorem Inv.call' {s' : Shared} {ch : List Addr} (I : Inv X pins σ H s) (ho : s'.os = s.os) (u : Un (frs X.stack) ch H H' s.heap s'.heap) (hok : HOk X.prog X.w H' s'.heap) (hg : AllBare s'.gens)
    (hch : ∀ b ∈ ch, (b ∈ X.ex ∨ X.s_0.heap.objs.size ≤ b) ∧ b ≠ X.env.locals ∧ (∀ x c, X.env.cells.lookup x = some c → c ≠ b) ∧ ∀ p ∈ X.pn ++ pins, p.1 ≠ b) : Inv X pins σ H' s' := by
  obtain ⟨h', g', d', t', o'⟩ := s'
  have e : o' = s.os := ho
  subst e
  exact I.call (g' := g') (t' := t') (d' := d') u hok hg hch
end

/-! ### the judgements -/
/-- an exception: its class, its own dict's address (where it has one), the abstract heap behind it -/
abbrev XK := Value → Option Addr → Hp → Prop
abbrev St := List (Option V)
abbrev VK := V → Hp → Prop
/-- an expression's reading; a test's; an argument list's -/
abbrev TE := St → Hp → VK → Prop
abbrev TT := St → Hp → (Bool → Hp → Prop) → Prop
abbrev TA := St → Hp → (List V → Hp → Prop) → Prop
/-- what is wanted behind a statement -/
structure Ends where
  nx : St → Hp → Prop
  rt : VK
  bk : St → Hp → Prop := fun _ _ => False
  ct : St → Hp → Prop := fun _ _ => False
abbrev TS := Ends → St → Hp → Prop

def EP (X : Cx) (pins : List (Addr × Obj)) (σ : St) (Q : VK) (u : Value) (s' : Shared) : Prop := ∃ v H', Inv X pins σ H' s' ∧ RelV v u ∧ Q v H'
def TP (X : Cx) (pins : List (Addr × Obj)) (σ : St) (Q : Bool → Hp → Prop) (b : Bool) (s' : Shared) : Prop := ∃ H', Inv X pins σ H' s' ∧ Q b H'
def AP (X : Cx) (pins : List (Addr × Obj)) (σ : St) (Q : List V → Hp → Prop) (us : List Value) (s' : Shared) : Prop := ∃ vs H', Inv X pins σ H' s' ∧ Vals vs us ∧ Q vs H'
def SP (X : Cx) (pins : List (Addr × Obj)) (D : Ends) (f : Flow) (s' : Shared) : Prop :=
  match f with
  | .next => ∃ σ' H', Inv X pins σ' H' s' ∧ D.nx σ' H'
  | .brk => ∃ σ' H', Inv X pins σ' H' s' ∧ D.bk σ' H'
  | .cont => ∃ σ' H', Inv X pins σ' H' s' ∧ D.ct σ' H'
  | .ret u => ∃ v σ' H', Inv X pins σ' H' s' ∧ RelV v u ∧ D.rt v H'

def PE (X : Cx) (e : Expr) (t : TE) : Prop :=
  ∀ (pins : List (Addr × Obj)) (s : Shared) (σ : St) (H : Hp) (Q : VK), Inv X pins σ H s → t σ H Q → wpAny (model X.prog X.w) X.A (eval e X.env) (EP X pins σ Q) X.xe s
def PT (X : Cx) (e : Expr) (t : TT) : Prop :=
  ∀ (pins : List (Addr × Obj)) (s : Shared) (σ : St) (H : Hp) (Q : Bool → Hp → Prop), Inv X pins σ H s → t σ H Q → wpAny (model X.prog X.w) X.A (isTrue e X.env (eval e X.env)) (TP X pins σ Q) X.xe s
/-- a test whatever its 'whole' is (and, or) -/
def PW (X : Cx) (e : Expr) (t : TT) : Prop :=
  ∀ (whole : Sem Value) (pins : List (Addr × Obj)) (s : Shared) (σ : St) (H : Hp) (Q : Bool → Hp → Prop), Inv X pins σ H s → t σ H Q → wpAny (model X.prog X.w) X.A (isTrue e X.env whole) (TP X pins σ Q) X.xe s
theorem PW.pt {X : Cx} {e : Expr} {t : TT} (h : PW X e t) : PT X e t := h _
/-- an argument list (no star), from the left -/
def PA (X : Cx) (es : List Expr) (t : TA) : Prop :=
  ∀ (pos : Pos) (pins : List (Addr × Obj)) (s : Shared) (σ : St) (H : Hp) (Q : List V → Hp → Prop), Inv X pins σ H s → t σ H Q → wpAny (model X.prog X.w) X.A (spliced (backTo pos (starEach es X.env))) (AP X pins σ Q) X.xe s
def PS (X : Cx) (st : Stmt) (t : TS) : Prop :=
  ∀ (pins : List (Addr × Obj)) (s : Shared) (σ : St) (H : Hp) (D : Ends), Inv X pins σ H s → t D σ H → wpAny (model X.prog X.w) X.A (exec st X.env) (SP X pins D) X.xe s
def PSs (X : Cx) (st : List Stmt) (t : TS) : Prop :=
  ∀ (pins : List (Addr × Obj)) (s : Shared) (σ : St) (H : Hp) (D : Ends), Inv X pins σ H s → t D σ H → wpAny (model X.prog X.w) X.A (execs st X.env) (SP X pins D) X.xe s
/-- weaken the end -/
theorem thn {α : Type} {t : Sem α} {Q Q' : α → Shared → Prop} {M : Model} {A : Around} {E : Value → Shared → Prop} {s : Shared} (h : wpAny M A t Q E s) (hQ : ∀ a s, Q a s → Q' a s) : wpAny M A t Q' E s := wpAny_mono h hQ fun _ _ x => x
end L2

namespace L2
open PySem PySem.Spec PyProof.Rows
section
variable {X : Cx}

/-- two expressions in a row -/
theorem bin {a b : Expr} {ta tb : TE} (ha : PE X a ta) (hb : PE X b tb) {pins : List (Addr × Obj)} {s : Shared} {σ : St} {H : Hp} {R : V → V → Hp → Prop} (I : Inv X pins σ H s) (h : ta σ H fun x H1 => tb σ H1 fun y H2 => R x y H2)
    {α : Type} {Q : α → Shared → Prop} {f : Value → Value → Sem α}
    (hf : ∀ v u s2 x y H2, Inv X pins σ H2 s2 → RelV x v → RelV y u → R x y H2 → wpAny (model X.prog X.w) X.A (f v u) Q X.xe s2) :
    wpAny (model X.prog X.w) X.A (eval a X.env) (fun v s₁ => wpAny (model X.prog X.w) X.A (eval b X.env) (fun u s₂ => wpAny (model X.prog X.w) X.A (f v u) Q X.xe s₂) X.xe s₁) X.xe s := by
  refine thn (ha pins s σ H _ I h) fun v s1 ⟨x, H1, I1, r1, q1⟩ => ?_
  refine thn (hb pins s1 σ H1 _ I1 q1) fun u s2 ⟨y, H2, I2, r2, q2⟩ => ?_
  exact hf v u s2 x y H2 I2 r1 r2 q2

/-! ### names and constants -/
def tVar (i : Nat) : TE := fun σ H Q => ∃ v, σ[i]? = some (some v) ∧ Q v H
def tC (v : V) : TE := fun _ H Q => Q v H
theorem pe_var {i : Nat} {x : Str} {pos : Pos} (hN : X.N[i]? = some x) (hv : Vis X.env.scope x) (hd : (x == ("__debug__" : Str)) = false := by decide) (hcd : (x == ("__classdict__" : Str)) = false := by decide) : PE X (.Name x pos) (tVar i) := by
  intro pins s σ H Q I h
  obtain ⟨v, e, h⟩ := h
  obtain ⟨m, hn, hl⟩ := I.loc
  obtain ⟨u, r, l⟩ := hl i x v hN e hv
  have fin : EP X pins σ Q u s := ⟨v, H, I, r, h⟩
  rcases l with ⟨hk, hm⟩ | ⟨hk, c, hc, hcell⟩
  · exact wpAny_Name (wpAny_loadName_local I.ok.kind hk hn hm fin) hd
  · rcases hk with hk | hk
    · exact wpAny_Name (wpAny_loadName_cell I.ok.kind hk hc hcell fin) hd
    · exact wpAny_Name (wpAny_loadName_free I.ok.kind hk hc hcell fin hcd) hd
theorem pe_int {i j pos} : PE X (.Constant (.int i) j pos) (tC (.int i)) := fun _ _ _ H _ I h => wpAny_Constant_int ⟨.int i, H, I.tok _, ⟨_, rfl⟩, h⟩
theorem pe_bl {b j pos} : PE X (.Constant (.bool b) j pos) (tC (.bl b)) := fun _ _ _ H _ I h => Constant_bool ⟨.bl b, H, I, rfl, h⟩
theorem pe_non {j pos} : PE X (.Constant .none j pos) (tC .non) := fun _ _ _ H _ I h => Constant_none ⟨.non, H, I, rfl, h⟩

/-- a global name of the def -/
def Gl (X : Cx) (x : Str) : Prop := X.env.kindOf x = some .globalImplicit
theorem ld_glob {E : Value → Shared → Prop} {pins : List (Addr × Obj)} {s : Shared} {σ : St} {H : Hp} {x : Str} {u : Value} {pos : Pos} {Q : Value → Shared → Prop} (I : Inv X pins σ H s) (hg : Gl X x) (hm : X.mg x = some u) (h : Q u s)
    (hd : (x == ("__debug__" : Str)) = false := by decide) : wpAny (model X.prog X.w) X.A (eval (.Name x pos) X.env) Q E s :=
  Calls.Name_function_global I.ok.kind hg (Calls.loadGlobal_global (by rw [I.ok.glob]; exact I.mod.glob.keeps I.bk) hm h) hd
theorem ld_blt {E : Value → Shared → Prop} {pins : List (Addr × Obj)} {s : Shared} {σ : St} {H : Hp} {x : Str} {u : Value} {pos : Pos} {Q : Value → Shared → Prop} (I : Inv X pins σ H s) (hg : Gl X x) (hm : X.mg x = none) (hv : bootBuiltins x = some u) (h : Q u s)
    (hn : x ≠ "__name__" := by decide) (hd : (x == ("__debug__" : Str)) = false := by decide) : wpAny (model X.prog X.w) X.A (eval (.Name x pos) X.env) Q E s := by
  obtain ⟨mb, h1, h2⟩ := I.mod.blt
  exact Calls.Name_function_global I.ok.kind hg (Calls.loadGlobal_builtin (by rw [I.ok.glob]; exact I.mod.glob.keeps I.bk) hm (by rw [I.ok.blt]; exact h1.keeps I.bk) ((h2 x hn).trans hv) h) hd
/-- a module's constant, a class, a function, as a value -/
theorem pe_glob {x : Str} {v : V} {u : Value} {pos : Pos} (hg : Gl X x) (hm : X.mg x = some u) (r : RelV v u) (hd : (x == ("__debug__" : Str)) = false := by decide) : PE X (.Name x pos) (tC v) :=
  fun _ _ _ H _ I h => ld_glob I hg hm ⟨v, H, I, r, h⟩ hd

/-! ### arithmetic -/
variable {a b : Expr} {ta tb : TE} {pos : Pos}

/-! ### comparisons -/
def PC (X : Cx) (op : CmpOp) (a b : Expr) (t : TE) : Prop :=
  ∀ (pins : List (Addr × Obj)) (s : Shared) (σ : St) (H : Hp) (Q : VK), Inv X pins σ H s → t σ H Q →
    wpAny (model X.prog X.w) X.A (eval a X.env) (fun v s₁ => wpAny (model X.prog X.w) X.A (eval b X.env) (fun u s₂ => wpAny (model X.prog X.w) X.A (compareOp op v u) (EP X pins σ Q) X.xe s₂) X.xe s₁) X.xe s
/-- a comparison as a value, as a test -/
def tB (t : TE) : TT := fun σ H Q => t σ H fun x H1 => ∃ c, x = .bl c ∧ Q c H1
theorem pt_cmp {op : CmpOp} {t : TE} (h : PC X op a b t) (h1 : behindInMarks op b = false := by first | exact nobehind _ (by decide) (by decide) | rfl) : PT X (.Compare a [op] [b] pos) (tB t) := by
  intro pins s σ H Q I hw
  refine wpAny_isTrue_Compare1 (thn (h pins s σ H _ I hw) fun v s1 h1 => thn h1 fun u s2 h2 => thn h2 fun c s3 ⟨x, H1, I1, r1, q1⟩ => ?_) h1
  obtain ⟨d, rfl, q⟩ := q1
  cases r1
  exact wpAny_truthy_bool ⟨H1, I1, q⟩
/-- an expression whose value is a bool, as a test -/
theorem pt_val {e : Expr} {t : TE} (h : PE X e t) (he : ∀ whole, isTrue e X.env whole = (do let v ← whole; standAt e.pos; holding [v] (truthy v)) := by intro _; rfl) : PT X e (tB t) := by
  intro pins s σ H Q I hw
  refine isTrue_plain (thn (h pins s σ H _ I hw) fun v s1 ⟨x, H1, I1, r1, q1⟩ => ?_) (he _)
  obtain ⟨d, rfl, q⟩ := q1
  cases r1
  exact wpAny_truthy_bool ⟨H1, I1, q⟩

/-! ### and, or, not -/
variable {tA tB' : TT} {rest : List Expr}
def tAnd (t u : TT) : TT := fun σ H Q => t σ H fun c H1 => if c = true then u σ H1 Q else Q false H1
def tOr (t u : TT) : TT := fun σ H Q => t σ H fun c H1 => if c = true then Q true H1 else u σ H1 Q
def tNot (t : TT) : TT := fun σ H Q => t σ H fun c H1 => Q (!c) H1
theorem pw_and1 (ha : PT X a tA) : PW X (.BoolOp .And [a] pos) tA := by
  intro wh pins s σ H Q I h
  refine isTrue_and (thn (ha pins s σ H Q I h) fun c s1 e => ?_)
  cases c with
  | true => exact isTrue_and_nil e
  | false => exact e
theorem pw_or1 (ha : PT X a tA) : PW X (.BoolOp .Or [a] pos) tA := by
  intro wh pins s σ H Q I h
  refine isTrue_or (thn (ha pins s σ H Q I h) fun c s1 e => ?_)
  cases c with
  | false => exact isTrue_or_nil e
  | true => exact e
theorem pw_and (ha : PT X a tA) (hb : PW X (.BoolOp .And (b :: rest) pos) tB') : PW X (.BoolOp .And (a :: b :: rest) pos) (tAnd tA tB') := by
  intro wh pins s σ H Q I h
  refine isTrue_and (thn (ha pins s σ H _ I h) fun c s1 ⟨H1, I1, q1⟩ => ?_)
  cases c with
  | true => exact hb wh pins s1 σ H1 Q I1 q1
  | false => exact ⟨H1, I1, q1⟩
theorem pw_or (ha : PT X a tA) (hb : PW X (.BoolOp .Or (b :: rest) pos) tB') : PW X (.BoolOp .Or (a :: b :: rest) pos) (tOr tA tB') := by
  intro wh pins s σ H Q I h
  refine isTrue_or (thn (ha pins s σ H _ I h) fun c s1 ⟨H1, I1, q1⟩ => ?_)
  cases c with
  | true => exact ⟨H1, I1, q1⟩
  | false => exact hb wh pins s1 σ H1 Q I1 q1
theorem pt_not (ha : PT X a tA) : PT X (.UnaryOp .Not a pos) (tNot tA) := by
  intro pins s σ H Q I h
  exact isTrue_not (ha pins s σ H (fun c H1 => Q (!c) H1) I h)
/-- .. as values (bools) -/
def tAndV (ta tb : TE) : TE := fun σ H Q => ta σ H fun x H1 => ∃ c, x = .bl c ∧ if c = true then tb σ H1 Q else Q (.bl false) H1
theorem pe_one {op} {t : TE} (h : PE X a t) : PE X (.BoolOp op [a] pos) t := fun pins s σ H Q I hw => BoolOp_one (h pins s σ H Q I hw)
theorem pe_and (ha : PE X a ta) (hb : PE X (.BoolOp .And (b :: rest) pos) tb) : PE X (.BoolOp .And (a :: b :: rest) pos) (tAndV ta tb) := by
  intro pins s σ H Q I h
  refine BoolOp_and (thn (ha pins s σ H _ I h) fun v s1 ⟨x, H1, I1, r1, q1⟩ => ?_)
  obtain ⟨c, rfl, q1⟩ := q1
  cases r1
  refine wpAny_truthy_bool ?_
  cases c with
  | true => exact hb pins s1 σ H1 Q I1 q1
  | false => exact ⟨.bl false, H1, I1, rfl, q1⟩
/-- a if t else b -/
def tIf (t : TT) (ta tb : TE) : TE := fun σ H Q => t σ H fun c H1 => if c = true then ta σ H1 Q else tb σ H1 Q
theorem pe_ifExp {c : Expr} (hc : PT X c tA) (ha : PE X a ta) (hb : PE X b tb) : PE X (.IfExp c a b pos) (tIf tA ta tb) := by
  intro pins s σ H Q I h
  refine wpAny_IfExp (thn (hc pins s σ H _ I h) fun d s1 ⟨H1, I1, q1⟩ => ?_)
  cases d with
  | true => exact ha pins s1 σ H1 Q I1 q1
  | false => exact hb pins s1 σ H1 Q I1 q1
end
end L2

namespace L2
open PySem PySem.Spec PyProof.Rows

/-! ### a list, a tuple that is read: tracked, frozen, or an object of the module -/
def SqL (K : PySem.W.Frag) (H : Hp) (a : Addr) (xs : List V) : Prop :=
  Rd H a (.lst xs) ∨
    ∃ (o : Obj) (its : Array Value) (n : Nat), K.lookup a = some o ∧ o.cls = .type "list" ∧ o.dict = none ∧ o.data = .seq its n ∧ its.size ≤ sizeLine ∧ Vals xs its.toList
def SqT (K : PySem.W.Frag) (H : Hp) (a : Addr) (xs : List V) : Prop :=
  Rd H a (.tup xs) ∨
    ∃ (o : Obj) (its : Array Value) (n : Nat), K.lookup a = some o ∧ o.cls = .type "tuple" ∧ o.data = .seq its n ∧ its.size ≤ sizeLine ∧ Vals xs its.toList
def absV : Value → Option V
  | .none => some .non
  | .bool b => some (.bl b)
  | .int i _ => some (.int i)
  | .str x _ => some (.str x)
  | .bytes b _ => some (.byt b)
  | .float b _ => some (.flt b)
  | .ref a => some (.ref a)
  | .type n => some (.ty n)
  | _ => none
theorem RelV.abs {x : V} {u : Value} (r : RelV x u) : absV u = some x := by
  cases x with
  | non => cases r; rfl
  | bl _ => cases r; rfl
  | int _ => obtain ⟨t, rfl⟩ := r; rfl
  | str _ => obtain ⟨t, rfl⟩ := r; rfl
  | byt _ => obtain ⟨t, rfl⟩ := r; rfl
  | flt _ => obtain ⟨t, rfl⟩ := r; rfl
  | ref _ => cases r; rfl
  | ty _ => cases r; rfl
theorem RelV.inj {x y : V} {u : Value} (r : RelV x u) (q : RelV y u) : x = y := Option.some.inj (r.abs.symm.trans q.abs)
theorem Vals.inj : ∀ {xs ys : List V} {us : List Value}, Vals xs us → Vals ys us → xs = ys
  | _, _, _, .nil, .nil => rfl
  | _, _, _, .cons r t, .cons r' t' => by rw [r.inj r', Vals.inj t t']
section
variable {X : Cx} {pins : List (Addr × Obj)} {σ : St} {H : Hp} {s : Shared} {a : Addr} {xs ys : List V}
theorem SqL.of {K : PySem.W.Frag} (h : H a = some (.lst xs)) : SqL K H a xs := .inl (.inl h)
theorem Inv.list (I : Inv X pins σ H s) (h : SqL X.K H a xs) : ∃ its : List Value, Vals xs its ∧ PlainL s.heap a its.toArray ∧ xs.length ≤ sizeLine := by
  rcases h with h | ⟨o, its, n, hk, hc, hd, hs, hz, r⟩
  · obtain ⟨z, its, n, r, e⟩ := h.ok I.hok
    exact ⟨its, r, ⟨_, n, e, rfl, rfl, rfl⟩, z⟩
  · refine ⟨its.toList, r, ⟨o, n, I.kIn a o hk, hc, hd, by simpa using hs⟩, ?_⟩
    have e := r.length
    simp only [Array.length_toList] at e
    omega
theorem Inv.tuple (I : Inv X pins σ H s) (h : SqT X.K H a xs) : ∃ its : List Value, Vals xs its ∧ IsTup s.heap a its.toArray ∧ xs.length ≤ sizeLine := by
  rcases h with h | ⟨o, its, n, hk, hc, hs, hz, r⟩
  · obtain ⟨z, its, r, p⟩ := h.ok I.hok
    exact ⟨its, r, p, z⟩
  · refine ⟨its.toList, r, ⟨o, I.kIn a o hk, hc, n, by simpa using hs⟩, ?_⟩
    have e := r.length
    simp only [Array.length_toList] at e
    omega
theorem Inv.list_inj (I : Inv X pins σ H s) (h : SqL X.K H a xs) (h' : SqL X.K H a ys) : xs = ys := by
  obtain ⟨its, r, ⟨o, n, e, _, _, d⟩, _⟩ := I.list h
  obtain ⟨its', r', ⟨o', n', e', _, _, d'⟩, _⟩ := I.list h'
  rw [e] at e'; cases e'
  rw [d] at d'
  injection d' with d1 _
  have : its = its' := by simpa using congrArg Array.toList d1
  subst this
  exact r.inj r'
end

/-! ### another wish about exceptions -/
abbrev Cx.wish (X : Cx) (E : Value → Shared → Prop) : Cx := { X with xe := E }
/-- no exception leaves -/
abbrev Cx.nox (X : Cx) : Cx := X.wish fun _ _ => False
theorem Cx.Ok.wish {X : Cx} (ok : X.Ok) (E : Value → Shared → Prop) : (X.wish E).Ok :=
  ⟨ok.mod, ok.kind, ok.glob, ok.blt, ok.above, ok.inj, ok.has, ok.cab, ok.hd, ok.frames, ok.stk, ok.exf, ok.bs, ok.bsz, ok.noex, ok.exfs, ok.funs, ok.frf⟩
theorem Cx.Ok.unwish {X : Cx} {E : Value → Shared → Prop} (ok : (X.wish E).Ok) : X.Ok :=
  ⟨ok.mod, ok.kind, ok.glob, ok.blt, ok.above, ok.inj, ok.has, ok.cab, ok.hd, ok.frames, ok.stk, ok.exf, ok.bs, ok.bsz, ok.noex, ok.exfs, ok.funs, ok.frf⟩
section
variable {X : Cx} {pins : List (Addr × Obj)} {σ : St} {H : Hp} {s : Shared} {E : Value → Shared → Prop}
theorem Inv.wish (I : Inv X pins σ H s) (E : Value → Shared → Prop) : Inv (X.wish E) pins σ H s := ⟨I.ok.wish E, I.os, I.bare, I.base, I.loc, I.cell, I.free, I.freeC, I.pin, I.hok, I.len⟩
theorem Inv.unwish (I : Inv (X.wish E) pins σ H s) : Inv X pins σ H s := ⟨I.ok.unwish, I.os, I.bare, I.base, I.loc, I.cell, I.free, I.freeC, I.pin, I.hok, I.len⟩
theorem SP.unwish {D : Ends} {f : Flow} {s' : Shared} (h : SP (X.wish E) pins D f s') : SP X pins D f s' := by
  cases f with
  | next => obtain ⟨σ', H', I, q⟩ := h; exact ⟨σ', H', I.unwish, q⟩
  | brk => obtain ⟨σ', H', I, q⟩ := h; exact ⟨σ', H', I.unwish, q⟩
  | cont => obtain ⟨σ', H', I, q⟩ := h; exact ⟨σ', H', I.unwish, q⟩
  | ret u => obtain ⟨v, σ', H', I, r, q⟩ := h; exact ⟨v, σ', H', I.unwish, r, q⟩
theorem PSs.nox {st : List Stmt} {t : TS} (h : PSs X.nox st t) : PSs X st t := fun pins s σ H D I hw =>
  wpAny_mono (h pins s σ H D (I.wish _) hw) (fun _ _ q => q.unwish) fun _ _ z => False.elim z
end

/-! ### blocks and small statements -/
section
variable {X : Cx} {st : Stmt} {rest : List Stmt} {t u : TS} {e : Expr} {te : TE} {pos : Pos}
def tNext : TS := fun D σ H => D.nx σ H
def tSeq (t u : TS) : TS := fun D σ H => t { D with nx := u D } σ H
theorem pss_nil : PSs X [] tNext := fun _ _ σ H _ I h => wpAny_execs_nil ⟨σ, H, I, h⟩
theorem pss_cons (h1 : PS X st t) (h2 : PSs X rest u) : PSs X (st :: rest) (tSeq t u) := by
  intro pins s σ H D I h
  refine wpAny_execs_cons (thn (h1 pins s σ H { D with nx := u D } I h) fun f s1 q => ?_)
  cases f with
  | next =>
    obtain ⟨σ', H', I', q⟩ := q
    exact h2 pins s1 σ' H' D I' q
  | ret v => exact q
  | brk => exact q
  | cont => exact q
theorem pss_one (h1 : PS X st t) : PSs X [st] t := by
  intro pins s σ H D I h
  refine wpAny_execs_cons (thn (h1 pins s σ H D I h) fun f s1 q => ?_)
  cases f with
  | next => exact wpAny_execs_nil q
  | ret v => exact q
  | brk => exact q
  | cont => exact q
/-- in a def's body nothing is shown -/
theorem Inv.quiet {pins : List (Addr × Obj)} {σ : St} {H : Hp} {s : Shared} (I : Inv X pins σ H s) : interactive X.env = false := by simp [interactive, I.ok.kind]
/-- an expression whose value is dropped -/
def tDrop (te : TE) : TS := fun D σ H => te σ H fun _ H1 => D.nx σ H1
theorem ps_expr (he : PE X e te) (hs : swapsWith e none pos.line X.env = pure false := by rfl) : PS X (.Expr e pos) (tDrop te) := by
  intro pins s σ H D I h
  exact wpAny_Expr_any (thn (he pins s σ H _ I h) fun v s1 ⟨x, H1, I1, r1, q1⟩ => ⟨σ, H1, I1, q1⟩) I.quiet hs
def tRet (te : TE) : TS := fun D σ H => te σ H D.rt
theorem ps_ret (he : PE X e te) : PS X (.Return (some e) pos) (tRet te) := by
  intro pins s σ H D I h
  exact wpAny_Return_some (thn (he pins s σ H _ I h) fun v s1 ⟨x, H1, I1, r1, q1⟩ => ⟨x, σ, H1, I1, r1, q1⟩)
def tIfS (c : TT) (t u : TS) : TS := fun D σ H => c σ H fun b H1 => if b = true then t D σ H1 else u D σ H1
theorem ps_if {c : Expr} {a b : List Stmt} {tc : TT} (hc : PT X c tc) (ha : PSs X a t) (hb : PSs X b u) : PS X (.If c a b pos) (tIfS tc t u) := by
  intro pins s σ H D I h
  refine wpAny_If (thn (hc pins s σ H _ I h) fun d s1 ⟨H1, I1, q1⟩ => ?_)
  cases d with
  | true => exact ha pins s1 σ H1 D I1 q1
  | false => exact hb pins s1 σ H1 D I1 q1
end

/-! ### targets -/
abbrev TG := V → St → Hp → (St → Hp → Prop) → Prop
def PG (X : Cx) (target : Expr) (t : TG) : Prop :=
  ∀ (pins : List (Addr × Obj)) (s : Shared) (σ : St) (H : Hp) (v : V) (u : Value) (Q : St → Hp → Prop), Inv X pins σ H s → RelV v u → t v σ H Q →
    wpAny (model X.prog X.w) X.A (assign target X.env u) (fun _ s' => ∃ σ' H', Inv X pins σ' H' s' ∧ Q σ' H') X.xe s
/-- o[i] = v, by values -/
abbrev TSet := V → V → V → Hp → (Hp → Prop) → Prop
def PSet (X : Cx) (t : TSet) : Prop :=
  ∀ (pins : List (Addr × Obj)) (s : Shared) (σ : St) (H : Hp) (o i v : V) (ov iv u : Value) (Q : Hp → Prop), Inv X pins σ H s → RelV o ov → RelV i iv → RelV v u → t o i v H Q →
    wpAny (model X.prog X.w) X.A (setItem ov iv u) (fun _ s' => ∃ H', Inv X pins σ H' s' ∧ Q H') X.xe s
/-- a op= b, by values -/
abbrev TIp := V → V → Hp → VK → Prop
def PIp (X : Cx) (op : Operator) (t : TIp) : Prop :=
  ∀ (pins : List (Addr × Obj)) (s : Shared) (σ : St) (H : Hp) (x y : V) (v u : Value) (Q : VK), Inv X pins σ H s → RelV x v → RelV y u → t x y H Q →
    wpAny (model X.prog X.w) X.A (inplaceOp op v u) (EP X pins σ Q) X.xe s
section
variable {X : Cx} {pos : Pos}
def gName (i : Nat) : TG := fun v σ H Q => Q (σ.set i (some v)) H
theorem pg_name {i : Nat} {x : Str} (hN : X.N.Nodup) (hi : X.N[i]? = some x) (hx : Loc X.env.scope x) (hf : X.fn x = true ∨ X.env.scope.names.lookup x = some .local := by first | exact .inl rfl | exact .inr rfl | assumption) : PG X (.Name x pos) (gName i) := by
  intro pins s σ H v u Q I r h
  exact wpAny_assign_Name (store_ok I hN hi hx r (fun s' I' => ⟨_, H, I', h⟩) hf)
/-- o[i] = .. -/
def gSub (to ti : TE) (t : TSet) : TG := fun v σ H Q => to σ H fun o H1 => ti σ H1 fun i H2 => t o i v H2 fun H3 => Q σ H3
theorem pg_sub {o i : Expr} {to ti : TE} {t : TSet} (ho : PE X o to) (hi : PE X i ti) (hs : PSet X t)
    (ha : ∀ v, assign (.Subscript o i pos) X.env v = (do
      let ov ← holding [v] (eval o X.env)
      let iv ← holding [v, ov] (eval i X.env)
      standAt pos
      holding [v, ov, iv] (setItem ov iv v)
      release [v, ov, iv] []) := by intro _; rfl) : PG X (.Subscript o i pos) (gSub to ti t) := by
  intro pins s σ H v u Q I r h
  rw [ha]
  refine wpAny_bind (wpAny_holding (thn (ho pins s σ H _ I h) fun ov s1 ⟨x, H1, I1, r1, q1⟩ => ?_))
  refine wpAny_bind (wpAny_holding (thn (hi pins s1 σ H1 _ I1 q1) fun iv s2 ⟨y, H2, I2, r2, q2⟩ => ?_))
  refine wpAny_bind (wpAny_standAt (wpAny_bind (wpAny_holding (thn (hs pins s2 σ H2 x y v ov iv u _ I2 r1 r2 r q2) fun _ s3 ⟨H3, I3, q3⟩ => ?_))))
  exact wpAny_release ⟨σ, H3, I3, q3⟩
/-- target = value -/
def tAsg (te : TE) (g : TG) : TS := fun D σ H => te σ H fun x H1 => g x σ H1 D.nx
theorem ps_asg {tg e : Expr} {te : TE} {g : TG} (he : PE X e te) (hg : PG X tg g) (hs : swapsWithSole [tg] e pos.line X.env = pure false := by rfl) (hw : swappedStores [tg] e X.env = pure none := by rfl)
    (h1 : (assignEach [tg] X.env).map (·.2) = [assign tg X.env] := by rfl) : PS X (.Assign [tg] e pos) (tAsg te g) := by
  intro pins s σ H D I h
  refine wpAny_Assign_stores (thn (he pins s σ H _ I h) fun v s1 ⟨x, H1, I1, r1, q1⟩ => ?_) hs hw
  rw [h1]
  exact thn (hg pins s1 σ H1 x v _ I1 r1 q1) fun _ s2 q => q
/-- name = value -/
theorem ps_set {i : Nat} {x : Str} {e : Expr} {te : TE} {pos' : Pos} (hN : X.N.Nodup) (hi : X.N[i]? = some x) (hx : Loc X.env.scope x) (he : PE X e te) (hs : swapsWith e (some (.Name x pos')) pos.line X.env = pure false := by rfl) (hf : X.fn x = true ∨ X.env.scope.names.lookup x = some .local := by first | exact .inl rfl | exact .inr rfl | assumption) :
    PS X (.Assign [.Name x pos'] e pos) (tAsg te (gName i)) := by
  intro pins s σ H D I h
  refine wpAny_Assign_Name (thn (he pins s σ H _ I h) fun v s1 ⟨y, H1, I1, r1, q1⟩ => ?_) hs
  exact store_ok I1 hN hi hx r1 (fun s2 I2 => ⟨_, H1, I2, q1⟩) hf
/-- name op= e -/
def tAug (i : Nat) (te : TE) (ti : TIp) : TS := fun D σ H => ∃ x, σ[i]? = some (some x) ∧ te σ H fun y H1 => ti x y H1 fun z H2 => D.nx (σ.set i (some z)) H2
theorem ps_aug {i : Nat} {x : Str} {e : Expr} {te : TE} {op : Operator} {ti : TIp} {pos' : Pos} (hN : X.N.Nodup) (hi : X.N[i]? = some x) (hx : Loc X.env.scope x) (he : PE X e te) (ho : PIp X op ti) (hf : X.fn x = true ∨ X.env.scope.names.lookup x = some .local := by first | exact .inl rfl | exact .inr rfl | assumption) :
    PS X (.AugAssign (.Name x pos') op e pos) (tAug i te ti) := by
  intro pins s σ H D I h
  obtain ⟨v, e1, h⟩ := h
  obtain ⟨m, hn, hl⟩ := I.loc
  have vis : Vis X.env.scope x := by rcases hx with k | k; exact .inl k; exact .inr (.inl k)
  obtain ⟨u, r, l⟩ := hl i x v hi e1 vis
  refine wpAny_AugAssign_Name ?_
  have go : wpAny (model X.prog X.w) X.A (eval e X.env) (fun w s₂ => wpAny (model X.prog X.w) X.A (inplaceOp op u w) (fun r s₃ => wpAny (model X.prog X.w) X.A (storeName X.env x r) (fun _ => SP X pins D .next) X.xe s₃) X.xe s₂) X.xe s := by
    refine thn (he pins s σ H _ I h) fun w s1 ⟨y, H1, I1, r1, q1⟩ => ?_
    refine thn (ho pins s1 σ H1 v y u w _ I1 r r1 q1) fun z s2 ⟨zv, H2, I2, r2, q2⟩ => ?_
    exact store_ok I2 hN hi hx r2 (fun s3 I3 => ⟨_, H2, I3, q2⟩) hf
  rcases l with ⟨hk, hm⟩ | ⟨hk, c, hc, hcell⟩
  · exact wpAny_loadName_local I.ok.kind hk hn hm go
  · rcases hk with hk | hk
    · exact wpAny_loadName_cell I.ok.kind hk hc hcell go
    · rcases hx with k | k
      · have : X.env.scope.names.lookup x = some .free := hk
        rw [k] at this; cases this
      · have : X.env.scope.names.lookup x = some .free := hk
        rw [k] at this; cases this
/-- o[i] op= e -/
def tAugS (to ti te : TE) (tget : V → V → Hp → VK → Prop) (tip : TIp) (tset : TSet) : TS := fun D σ H => to σ H fun o H1 => ti σ H1 fun i H2 => tget o i H2 fun x H3 => te σ H3 fun y H4 => tip x y H4 fun z H5 => tset o i z H5 fun H6 => D.nx σ H6
/-- o[i], by values -/
def PGet (X : Cx) (t : V → V → Hp → VK → Prop) : Prop :=
  ∀ (pins : List (Addr × Obj)) (s : Shared) (σ : St) (H : Hp) (o i : V) (ov iv : Value) (Q : VK), Inv X pins σ H s → RelV o ov → RelV i iv → t o i H Q →
    wpAny (model X.prog X.w) X.A (getItem ov iv) (EP X pins σ Q) X.xe s
theorem ps_augS {o i e : Expr} {to ti te : TE} {tget : V → V → Hp → VK → Prop} {tip : TIp} {tset : TSet} {op : Operator} {tpos : Pos} (ho : PE X o to) (hi : PE X i ti) (hg : PGet X tget) (he : PE X e te) (hp : PIp X op tip) (hs : PSet X tset)
    (ha : ∀ ov iv new, augStore i ov iv new = (do holding [new, ov, iv] (setItem ov iv new); release [new, ov, iv] []; pure .next) := by intros; rfl) : PS X (.AugAssign (.Subscript o i tpos) op e pos) (tAugS to ti te tget tip tset) := by
  intro pins s σ H D I h
  refine wpAny_AugAssign_SubscriptAny (thn (ho pins s σ H _ I h) fun ov s1 ⟨x1, H1, I1, r1, q1⟩ => ?_) ha
  refine thn (hi pins s1 σ H1 _ I1 q1) fun iv s2 ⟨x2, H2, I2, r2, q2⟩ => ?_
  refine thn (hg pins s2 σ H2 x1 x2 ov iv _ I2 r1 r2 q2) fun old s3 ⟨x3, H3, I3, r3, q3⟩ => ?_
  refine thn (he pins s3 σ H3 _ I3 q3) fun v s4 ⟨x4, H4, I4, r4, q4⟩ => ?_
  refine thn (hp pins s4 σ H4 x3 x4 old v _ I4 r3 r4 q4) fun new s5 ⟨x5, H5, I5, r5, q5⟩ => ?_
  exact thn (hs pins s5 σ H5 x1 x2 x5 ov iv new _ I5 r1 r2 r5 q5) fun _ s6 ⟨H6, I6, q6⟩ => ⟨σ, H6, I6, q6⟩
/-- ints -/
def ipI (f : Int → Int → Int) : TIp := fun x y H Q => ∃ i j, x = .int i ∧ y = .int j ∧ Q (.int (f i j)) H
theorem ip_add : PIp X .Add (ipI fun i j => i + j) := by
  intro pins s σ H x y v u Q I r1 r2 h
  obtain ⟨i, j, e1, e2, q⟩ := h
  subst e1; subst e2
  obtain ⟨t, rfl⟩ := r1
  obtain ⟨t', rfl⟩ := r2
  exact iadd_int ⟨.int _, H, I.tok _, ⟨_, rfl⟩, q⟩
end

/-! ### while -/
section
variable {X : Cx} {pos : Pos}
/-- the invariant W with its measure -/
def tWhile (c : TT) (tb : TS) : TS := fun D σ H => ∃ W : Nat → St → Hp → Prop, (∃ m, W m σ H) ∧ ∀ m σ H, W m σ H →
  c σ H fun b H1 => if b = true then ∃ N : St → Hp → Prop, (∀ σ' H', N σ' H' → ∃ m', m' < m ∧ W m' σ' H') ∧ tb { D with nx := N, ct := N, bk := D.nx } σ H1 else D.nx σ H1
theorem ps_while {c : Expr} {body : List Stmt} {tc : TT} {tb : TS} (hp : PassesOwn (model X.prog X.w) X.A X.env X.xe) (hc : PT X c tc) (hb : PSs X body tb) : PS X (.While c body [] pos) (tWhile tc tb) := by
  intro pins s σ H D I h
  obtain ⟨W, ⟨m0, w0⟩, turn⟩ := h
  refine wpAny_While (codeAny_whileLoop (fun n s' => ∃ σ' H', Inv X pins σ' H' s' ∧ W n σ' H') ?_ m0 ⟨σ, H, I, w0⟩)
  rintro n s1 ⟨σ1, H1, I1, w1⟩
  refine wpAny_passesOwn hp (thn (hc pins s1 σ1 H1 _ I1 (turn n σ1 H1 w1)) fun b s2 ⟨H2, I2, q2⟩ => ?_)
  cases b with
  | true =>
    obtain ⟨N, hN, q2⟩ := q2
    rw [if_pos rfl]
    refine wpAny_passesOwn hp (thn (hb pins s2 σ1 H2 _ I2 q2) fun f s3 q3 => ?_)
    cases f with
    | next =>
      obtain ⟨σ3, H3, I3, n3⟩ := q3
      obtain ⟨m', hm, w3⟩ := hN σ3 H3 n3
      exact ⟨m', hm, σ3, H3, I3, w3⟩
    | cont =>
      obtain ⟨σ3, H3, I3, n3⟩ := q3
      obtain ⟨m', hm, w3⟩ := hN σ3 H3 n3
      exact ⟨m', hm, σ3, H3, I3, w3⟩
    | brk => exact q3
    | ret v => exact q3
  | false =>
    rw [if_neg Bool.false_ne_true]
    exact wpAny_execs_nil ⟨σ1, H2, I2, q2⟩
end

/-! ### what a loop or a comprehension walks -/
/-- at turn i: it yields x (the heap may grow), or it stops -/
structure It where
  go : Nat → Hp → Prop
  yld : Nat → Hp → V → Hp → Prop
  stop : Nat → Hp → Prop
/-- the iterator's own objects may turn: they are not the frame's, not pinned, younger than the entry (or a comprehension's own) -/
def FpOk (X : Cx) (pins : List (Addr × Obj)) (H : Hp) (b : Addr) : Prop :=
  H b = none ∧ b ≠ X.env.locals ∧ b ∉ X.fs ∧ (b ∈ X.ex ∨ X.s_0.heap.objs.size ≤ b) ∧ (∀ x c, X.env.cells.lookup x = some c → c ≠ b) ∧ ∀ p ∈ X.pn ++ pins, p.1 ≠ b
theorem Inv.fpOk {X : Cx} {pins : List (Addr × Obj)} {σ : St} {H H' : Hp} {s : Shared} {b : Addr} (I : Inv X pins σ H s) (hb : s.heap.objs.size ≤ b) (hn : H' b = none) : FpOk X pins H' b := by
  refine ⟨hn, Nat.ne_of_gt (Nat.lt_of_lt_of_le I.lt hb), I.nofs hb, .inr (Nat.le_trans I.sz hb), fun x c e z => ?_, fun p hp z => ?_⟩
  · obtain ⟨v, q⟩ := I.cell x c e
    exact absurd (Nat.lt_of_lt_of_le q.lt (by rw [z]; exact hb)) (Nat.lt_irrefl _)
  · exact absurd (Nat.lt_of_lt_of_le (Heap.lt_size (I.pin p hp).1) (by rw [z]; exact hb)) (Nat.lt_irrefl _)
structure Turn (P : Program) (w : World) (K : PySem.W.Frag) (tg : Expr) (J : It) (fp : List Addr) (it : Addr) (tn : Nat → Heap → Prop) : Prop where
  mem : it ∈ fp
  obj : ∀ i h, tn i h → ∀ b ∈ fp, ∃ o, h.get? b = some o ∧ ∀ v, o.data ≠ .cell v
  keep : ∀ i h h', tn i h → (∀ b ∈ fp, ∀ o, h.get? b = some o → h'.get? b = some o) → tn i h'
  item : ∀ (X : Cx), X.prog = P → X.w = w → X.K = K → X.calm = true → ∀ (i : Nat) (pins : List (Addr × Obj)) (s : Shared) (σ : St) (H : Hp) (E : Value → Shared → Prop), Inv X pins σ H s → (∀ b ∈ fp, FpOk X pins H b) → tn i s.heap → J.go i H →
    wpAny (model P w) X.A (pyNext (.ref it)) (fun r s1 => ∃ u, r = some u ∧
      wpAny (model P w) X.A (letOwnedTupleGo tg (.ref it) u) (fun _ s2 => ∃ x H', Inv X pins σ H' s2 ∧ RelV x u ∧ J.yld i H x H' ∧ tn (i + 1) s2.heap ∧ ∀ b ∈ fp, H' b = none) E s1) E s
  done : ∀ (X : Cx), X.prog = P → X.w = w → X.K = K → X.calm = true → ∀ (i : Nat) (pins : List (Addr × Obj)) (s : Shared) (σ : St) (H : Hp) (E : Value → Shared → Prop), Inv X pins σ H s → (∀ b ∈ fp, FpOk X pins H b) → tn i s.heap → J.stop i H →
    wpAny (model P w) X.A (pyNext (.ref it)) (fun r s1 => r = none ∧ Inv X pins σ H s1) E s
  self : ∀ (A : Around) (i : Nat) (s : Shared) (Q : Value → Shared → Prop) (E : Value → Shared → Prop), tn i s.heap → Q (.ref it) s → wpAny (model P w) A (pyIter (.ref it)) Q E s
abbrev TI := St → Hp → (It → Hp → Prop) → Prop
/-- an iterator has come -/
def PIE (X : Cx) (pins : List (Addr × Obj)) (σ : St) (tg : Expr) (R : It → Hp → Prop) (itv : Value) (s2 : Shared) : Prop :=
  ∃ (it : Addr) (fp : List Addr) (tn : Nat → Heap → Prop) (J : It) (H' : Hp), itv = .ref it ∧ Inv X pins σ H' s2 ∧ Turn X.prog X.w X.K tg J fp it tn ∧ tn 0 s2.heap ∧ (∀ b ∈ fp, FpOk X pins H' b) ∧ R J H'
def PI (X : Cx) (tg iter : Expr) (wi : TI) : Prop :=
  ∀ (pins : List (Addr × Obj)) (s : Shared) (σ : St) (H : Hp) (R : It → Hp → Prop), Inv X pins σ H s → wi σ H R →
    wpAny (model X.prog X.w) X.A (eval iter X.env) (fun v s1 => wpAny (model X.prog X.w) X.A (pyIter v) (PIE X pins σ tg R) X.xe s1) X.xe s

/-- the step ahead of the store is nothing for an iterator that keeps no tuple -/
theorem go_of {M : Model} {A : Around} {E : Value → Shared → Prop} {s : Shared} {tg : Expr} {it : Addr} {u : Value} {o : Obj} {n : String} {vs : Array Value} {Q : Unit → Shared → Prop} (ho : s.heap.get? it = some o) (hc : o.cls = .type n) (hd : o.data = .fields vs)
    (hn : ["enumerate", "zip", "dict_itemiterator", "dict_reverseitemiterator", "odict_iterator", "itertools.zip_longest", "itertools.pairwise"].contains n = false) (hQ : Q () s) : wpAny M A (letOwnedTupleGo tg (.ref it) u) Q E s := by
  unfold letOwnedTupleGo
  cases tg <;> first
    | exact wpAny_pure hQ
    | (cases u <;> first
        | exact wpAny_pure hQ
        | (refine wpAny_bind (wpAny_load ho ?_)
           rw [hc, hd]
           show wpAny M A (if (["enumerate", "zip", "dict_itemiterator", "dict_reverseitemiterator", "odict_iterator", "itertools.zip_longest", "itertools.pairwise"].contains n && vs[0]? == some (rawInt _)) = true then _ else _) Q E s
           rw [if_neg (by intro h; rw [hn, Bool.false_and] at h; cases h)]
           exact wpAny_pure hQ))

/-- the list at a, as it stands at each turn (a loop may append to it) -/
def Itl (K : PySem.W.Frag) (a : Addr) : It :=
  ⟨fun i H => ∃ xs x, SqL K H a xs ∧ xs[i]? = some x, fun i H x H' => H' = H ∧ ∀ xs, SqL K H a xs → xs[i]? = some x, fun i H => ∃ xs, SqL K H a xs ∧ xs.length ≤ i⟩
/-- lo, lo + 1, .. (n of them) -/
def Itr (lo : Int) (n : Nat) : It := ⟨fun i _ => i < n, fun i H x H' => H' = H ∧ x = .int (lo + i), fun i _ => n ≤ i⟩
theorem turn_list {P : Program} {w : World} {K : PySem.W.Frag} {tg : Expr} (a it : Addr) : Turn P w K tg (Itl K a) [it] it (fun i h => h.IsListIter it a i) where
  mem := by simp
  obj := fun i h st b hb => by
    have e : b = it := by simpa using hb
    subst e
    obtain ⟨o, e, c, d⟩ := st
    exact ⟨o, e, fun v z => by rw [d] at z; cases z⟩
  keep := fun i h h' st k => st.at fun o e => k it (by simp) o e
  item := by
    intro X hP hw hK hc i pins s σ H E I hf st hg
    subst hP hw hK
    obtain ⟨xs, x, hq, hx⟩ := hg
    obtain ⟨its, rv, p, hz⟩ := I.list hq
    obtain ⟨u, hu, ru⟩ := rv.get hx
    obtain ⟨f0, f1, f2, f3, f4, f5⟩ := hf it (by simp)
    refine wpAny_pyNext_list_item st p.isList (x := u) (by simpa using hu) fun h' st' sb => ?_
    have I1 : Inv X pins σ H { s with heap := h' } := I.turned (t' := s.toks) (fun b o hb e => (sb.2 b hb).trans e) f0 f1 f3 f4 f5
    obtain ⟨o, e, c, d⟩ := id st'
    exact ⟨u, rfl, go_of (s := { s with heap := h' }) e c d (by decide) ⟨x, H, I1, ru, ⟨rfl, fun ys hy => by rw [I.list_inj hy hq]; exact hx⟩, st', fun b hb => (hf b hb).1⟩⟩
  done := by
    intro X hP hw hK hc i pins s σ H E I hf st hg
    subst hP hw hK
    obtain ⟨xs, hq, hx⟩ := hg
    obtain ⟨its, rv, p, hz⟩ := I.list hq
    obtain ⟨f0, f1, f2, f3, f4, f5⟩ := hf it (by simp)
    have hl := rv.length
    exact wpAny_pyNext_list_end (I.ok.hd hc) st p.isList (by simp; omega) fun h' eb => ⟨rfl, I.turned (t' := s.toks) (fun b o hb e => eb b o hb e) f0 f1 f3 f4 f5⟩
  self := fun _ _ _ _ _ st h => wpAny_pyIter_listiter st h
theorem turn_range {P : Program} {w : World} {K : PySem.W.Frag} {tg : Expr} (it : Addr) (lo : Int) (n : Nat) : Turn P w K tg (Itr lo n) [it] it (fun i h => IsRangeIter h it (lo + (i : Nat) * 1) ((n : Int) - (i : Nat)) 1) where
  mem := by simp
  obj := fun i h st b hb => by
    have e : b = it := by simpa using hb
    subst e
    exact ⟨_, st, fun v z => by
      have z' : Data.fields _ = Data.cell v := z
      cases z'⟩
  keep := fun i h h' st k => k it (by simp) _ st
  item := by
    intro X hP hw hK hc i pins s σ H E I hf st hg
    subst hP hw hK
    obtain ⟨f0, f1, f2, f3, f4, f5⟩ := hf it (by simp)
    have W := Walks.range (prog := X.prog) (w := X.w) (I.ok.hd hc) it lo 1 n
    refine W.item i s _ _ hg st fun v h' tk hv st' kk => ?_
    obtain ⟨t, rfl⟩ := hv
    have I1 : Inv X pins σ H { s with heap := h', toks := tk } := I.turned (fun b o hb e => kk b o (by simpa using hb) e) f0 f1 f3 f4 f5
    refine ⟨_, rfl, go_of (s := { s with heap := h', toks := tk }) (n := "range_iterator") st' rfl rfl (by decide) ⟨.int (lo + i), H, I1, ⟨t, ?_⟩, ⟨rfl, rfl⟩, st', fun b hb => (hf b hb).1⟩⟩
    rw [Int.mul_one]
  done := by
    intro X hP hw hK hc i pins s σ H E I hf st hg
    subst hP hw hK
    obtain ⟨f0, f1, f2, f3, f4, f5⟩ := hf it (by simp)
    exact wpAny_pyNext_range_end (I.ok.hd hc) st (by have : n ≤ i := hg; omega) fun h' eb => ⟨rfl, I.turned (t' := s.toks) (fun b o hb e => eb b o hb e) f0 f1 f3 f4 f5⟩
  self := fun _ _ _ _ _ st h => wpAny_pyIter_rangeiter st h
end L2

namespace L2
open PySem PySem.Spec PyProof.Rows
section
variable {X : Cx} {tg : Expr}
def iList (K : PySem.W.Frag) (tl : TE) : TI := fun σ H R => tl σ H fun x H1 => ∃ a, x = .ref a ∧ (∃ xs, SqL K H1 a xs) ∧ R (Itl K a) H1
theorem pi_list {l : Expr} {tl : TE} (hl : PE X l tl) : PI X tg l (iList X.K tl) := by
  intro pins s σ H R I h
  refine thn (hl pins s σ H _ I h) fun v s1 ⟨x, H1, I1, r1, q1⟩ => ?_
  obtain ⟨a, e, ⟨xs, hq⟩, q⟩ := q1
  subst e
  cases r1
  obtain ⟨its, rv, p, hz⟩ := I1.list hq
  refine wpAny_pyIter_list p.isList ?_
  refine ⟨s1.heap.objs.size, [s1.heap.objs.size], _, _, H1, rfl, I1.kept (t' := s1.toks) fun b o e => Heap.get?_push_of_some _ e, turn_list a _, ⟨_, Heap.get?_push_size _ rfl, rfl, rfl⟩, fun b hb => ?_, q⟩
  have e : b = s1.heap.objs.size := by simpa using hb
  subst e
  exact I1.fpOk (Nat.le_refl _) (I1.hok.fresh (Nat.le_refl _))
/-- a range object just made, walked -/
theorem range_it {pins : List (Addr × Obj)} {σ : St} {H : Hp} {s : Shared} {R : It → Hp → Prop} {E : Value → Shared → Prop} {lo hi : Int} {t u v : Tok} {tk : Nat} (I : Inv X pins σ H s) (h1 : -(2 ^ 62) ≤ lo) (h2 : lo < 2 ^ 62) (h3 : -(2 ^ 62) ≤ hi) (h4 : hi < 2 ^ 62)
    (q : R (Itr lo (hi - lo).toNat) H) : wpAny (model X.prog X.w) X.A (pyIter (.ref s.heap.objs.size)) (PIE X pins σ tg R) E { s with heap := s.heap.push { cls := .type "range", data := .fields #[.int lo t, .int hi u, .int 1 v] }, toks := tk } := by
  refine wpAny_pyIter_range (IsRange.new ..) (small_one h1 h2 h3 h4) ?_
  have I1 : Inv X pins σ H { s with heap := s.heap.push { cls := .type "range", data := .fields #[.int lo t, .int hi u, .int 1 v] }, toks := tk } := I.kept fun b o e => Heap.get?_push_of_some _ e
  refine ⟨(s.heap.push { cls := .type "range", data := .fields #[.int lo t, .int hi u, .int 1 v] }).objs.size, [(s.heap.push { cls := .type "range", data := .fields #[.int lo t, .int hi u, .int 1 v] }).objs.size], _, _, H, rfl,
    I1.kept (t' := tk) fun b o e => Heap.get?_push_of_some _ e, turn_range _ lo (hi - lo).toNat, ?_, fun b hb => ?_, q⟩
  · have e1 : lo + ((0 : Nat) : Int) * 1 = lo := by simp
    have e2 : (((hi - lo).toNat : Nat) : Int) - ((0 : Nat) : Int) = Builtin.Range.rangeSize lo hi 1 := by rw [rangeSize_one]; split <;> omega
    show IsRangeIter _ _ (lo + ((0 : Nat) : Int) * 1) ((((hi - lo).toNat : Nat) : Int) - ((0 : Nat) : Int)) 1
    rw [e1, e2]
    exact Heap.get?_push_size _ rfl
  · have e : b = (s.heap.push { cls := .type "range", data := .fields #[.int lo t, .int hi u, .int 1 v] }).objs.size := by simpa using hb
    subst e
    exact I1.fpOk (Nat.le_refl _) (I1.hok.fresh (Nat.le_refl _))
def iRng1 (ta : TA) : TI := fun σ H R => ta σ H fun vs H1 => ∃ j : Int, vs = [.int j] ∧ -(2 ^ 62) ≤ j ∧ j < 2 ^ 62 ∧ R (Itr 0 j.toNat) H1
theorem pi_range1 {a : Expr} {ta : TA} {p pos : Pos} (hg : Gl X "range") (hm : X.mg "range" = none) (ha : PA X [a] ta) (hs : starEach [a] X.env = [(false, eval a X.env)] := by rfl) : PI X tg (.Call (.Name "range" p) [a] [] pos) (iRng1 ta) := by
  intro pins s σ H R I h
  refine Call_ (ld_blt I hg hm boot_range (PyProof.Rows.callWith_type1 (thn (ha pos pins s σ H _ I h) fun us s1 ⟨vs, H1, I1, r1, q1⟩ => ?_) hs rfl))
  obtain ⟨j, e, q1, q2, q⟩ := q1
  subst e
  cases r1 with
  | cons r rr =>
    cases rr
    obtain ⟨t, rfl⟩ := r
    exact call_range_1 (range_it I1 (by omega) (by omega) q1 q2 (by simpa using q))

/-! ### for -/
/-- W: the invariant by the turn and a measure; N: what the body is to reach -/
def tFor (wi : TI) (g : TG) (tb : TS) : TS := fun D σ H => wi σ H fun J H1 => ∃ W : Nat → Nat → St → Hp → Prop, (∃ m, W 0 m σ H1) ∧ ∀ i m σ H, W i m σ H →
  (J.stop i H ∧ D.nx σ H) ∨ (J.go i H ∧ ∃ N : St → Hp → Prop, (∀ σ' H', N σ' H' → ∃ m', m' < m ∧ W (i + 1) m' σ' H') ∧ ∀ x H', J.yld i H x H' → g x σ H' fun σ2 H2 => tb { D with nx := N, ct := N, bk := D.nx } σ2 H2)
/-- the records at fp as they stand -/
def pinsAt (fp : List Addr) (h : Heap) : List (Addr × Obj) := fp.filterMap fun b => (h.get? b).map fun o => (b, o)
theorem mem_pinsAt {fp : List Addr} {h : Heap} {b : Addr} {o : Obj} (hb : b ∈ fp) (e : h.get? b = some o) : (b, o) ∈ pinsAt fp h := List.mem_filterMap.mpr ⟨b, hb, by rw [e]; rfl⟩
theorem of_pinsAt {fp : List Addr} {h : Heap} {p : Addr × Obj} (hp : p ∈ pinsAt fp h) : p.1 ∈ fp ∧ h.get? p.1 = some p.2 := by
  obtain ⟨b, hb, e⟩ := List.mem_filterMap.mp hp
  cases q : h.get? b with
  | none => rw [q] at e; cases e
  | some o =>
    rw [q] at e
    have e' : (b, o) = p := Option.some.inj e
    subst e'
    exact ⟨hb, q⟩
theorem Inv.pinned {pins : List (Addr × Obj)} {σ : St} {H : Hp} {s : Shared} {fp : List Addr} (I : Inv X pins σ H s) (hf : ∀ b ∈ fp, FpOk X pins H b) (ho : ∀ b ∈ fp, ∃ o, s.heap.get? b = some o ∧ ∀ v, o.data ≠ .cell v) : Inv X (pins ++ pinsAt fp s.heap) σ H s :=
  I.pins_of fun p hp => (List.mem_append.mp hp).elim (fun z => I.pin p (List.mem_append_right _ z)) fun z => by
    obtain ⟨hb, e⟩ := of_pinsAt z
    obtain ⟨f0, f1, f2, _⟩ := hf p.1 hb
    obtain ⟨o, e', d⟩ := ho p.1 hb
    rw [e] at e'; cases e'
    exact ⟨e, f0, f1, f2, d⟩
theorem Inv.unpinned {pins pl : List (Addr × Obj)} {σ : St} {H : Hp} {s : Shared} (I : Inv X (pins ++ pl) σ H s) : Inv X pins σ H s := I.pins_of fun p hp => I.pin p (List.mem_append_right _ (List.mem_append_left _ hp))
theorem ps_for {iter : Expr} {body : List Stmt} {wi : TI} {g : TG} {tb : TS} {pos : Pos} (hp : PassesOwn (model X.prog X.w) X.A X.env X.xe) (hc : X.calm = true) (hi : PI X tg iter wi) (hg : PG X tg g) (hb : PSs X body tb)
    (hs : ∀ x, foldedSetIterable iter X.env x = pure x := by intro _; rfl) : PS X (.For tg iter body [] pos) (tFor wi g tb) := by
  intro pins s σ H D I h
  refine wpAny_For (thn (hi pins s σ H _ I h) fun v s1 h1 => thn h1 fun itv s2 h2 => ?_) hs
  obtain ⟨it, fp, tn, J, H2, e, I2, T, st2, f2, W, ⟨m0, w0⟩, turn⟩ := h2
  subst e
  -- what stays true of the iterator's objects through the loop
  have stat : ∀ {H' : Hp}, (∀ b ∈ fp, H' b = none) → ∀ b ∈ fp, FpOk X pins H' b := fun hn b hb => ⟨hn b hb, (f2 b hb).2⟩
  refine codeAny_forLoop_any (fun n s' => ∃ i σ' H', Inv X pins σ' H' s' ∧ tn i s'.heap ∧ (∀ b ∈ fp, H' b = none) ∧ W i n σ' H') ?_ m0 ⟨0, σ, H2, I2, st2, fun b hb => (f2 b hb).1, w0⟩
  rintro n s3 ⟨i, σ3, H3, I3, st3, fr3, w3⟩
  rcases turn i n σ3 H3 w3 with ⟨stop, qn⟩ | ⟨go, N, hN, step⟩
  · refine wpAny_passesOwn hp (thn (T.done X rfl rfl rfl hc i pins s3 σ3 H3 X.xe I3 (stat fr3) st3 stop) fun r s4 ⟨hr, I4⟩ => ?_)
    subst hr
    exact wpAny_execs_nil ⟨σ3, H3, I4, qn⟩
  · refine wpAny_passesOwn hp (thn (T.item X rfl rfl rfl hc i pins s3 σ3 H3 X.xe I3 (stat fr3) st3 go) fun r s4 ⟨u, hr, h4⟩ => ?_)
    subst hr
    refine wpAny_passesOwn hp (thn h4 fun _ s5 ⟨x, H5, I5, r5, y5, st5, fr5⟩ => ?_)
    have I5' := I5.pinned (stat fr5) (T.obj _ _ st5)
    refine wpAny_passesOwn hp (thn (hg _ s5 σ3 H5 x u _ I5' r5 (step x H5 y5)) fun _ s6 ⟨σ6, H6, I6, q6⟩ => ?_)
    refine wpAny_passesOwn hp (thn (hb _ s6 σ6 H6 _ I6 q6) fun f s7 q7 => ?_)
    have again : ∀ {σ7 : St} {H7 : Hp}, Inv X (pins ++ pinsAt fp s5.heap) σ7 H7 s7 → N σ7 H7 → ∃ m, m < n ∧ ∃ i σ' H', Inv X pins σ' H' s7 ∧ tn i s7.heap ∧ (∀ b ∈ fp, H' b = none) ∧ W i m σ' H' := fun {σ7 H7} I7 n7 => by
      obtain ⟨m', hm, w7⟩ := hN σ7 H7 n7
      refine ⟨m', hm, i + 1, σ7, H7, I7.unpinned, T.keep _ _ _ st5 fun b hb o e => (I7.pin (b, o) (List.mem_append_right _ (List.mem_append_right _ (mem_pinsAt hb e)))).1, fun b hb => ?_, w7⟩
      obtain ⟨o, e, d⟩ := T.obj _ _ st5 b hb
      exact (I7.pin (b, o) (List.mem_append_right _ (List.mem_append_right _ (mem_pinsAt hb e)))).2.1
    cases f with
    | next => obtain ⟨σ7, H7, I7, n7⟩ := q7; exact again I7 n7
    | cont => obtain ⟨σ7, H7, I7, n7⟩ := q7; exact again I7 n7
    | brk => obtain ⟨σ7, H7, I7, q7⟩ := q7; exact ⟨σ7, H7, I7.unpinned, q7⟩
    | ret v => obtain ⟨x7, σ7, H7, I7, r7, q7⟩ := q7; exact ⟨x7, σ7, H7, I7.unpinned, r7, q7⟩
end

/-! ### the forms one uses -/
/-- over a list that the body leaves as it is -/
theorem for_list {K : PySem.W.Frag} {a : Addr} {xs : List V} {g : TG} {tb : TS} {D : Ends} {σ : St} {H : Hp} (Pv : Nat → St → Hp → Prop) (h0 : Pv 0 σ H) (hl : ∀ i σ H, i ≤ xs.length → Pv i σ H → SqL K H a xs)
    (hs : ∀ i x σ H, xs[i]? = some x → Pv i σ H → g x σ H fun σ2 H2 => tb { D with nx := Pv (i + 1), ct := Pv (i + 1), bk := D.nx } σ2 H2) (hd : ∀ σ H, Pv xs.length σ H → D.nx σ H) :
    ∃ W : Nat → Nat → St → Hp → Prop, (∃ m, W 0 m σ H) ∧ ∀ i m σ H, W i m σ H →
      ((Itl K a).stop i H ∧ D.nx σ H) ∨ ((Itl K a).go i H ∧ ∃ N : St → Hp → Prop, (∀ σ' H', N σ' H' → ∃ m', m' < m ∧ W (i + 1) m' σ' H') ∧ ∀ x H', (Itl K a).yld i H x H' → g x σ H' fun σ2 H2 => tb { D with nx := N, ct := N, bk := D.nx } σ2 H2) := by
  refine ⟨fun i m σ H => m = xs.length - i ∧ i ≤ xs.length ∧ Pv i σ H, ⟨xs.length, by simp, Nat.zero_le _, h0⟩, ?_⟩
  rintro i m σ H ⟨rfl, hi, p⟩
  have q := hl i σ H hi p
  by_cases hlt : i < xs.length
  · refine .inr ⟨⟨xs, xs[i], q, by simp [hlt]⟩, Pv (i + 1), fun σ' H' p' => ⟨xs.length - (i + 1), by omega, rfl, hlt, p'⟩, fun x H' y => ?_⟩
    obtain ⟨e, y⟩ := y
    subst e
    exact hs i x σ _ (y xs q) p
  · have e : i = xs.length := by omega
    subst e
    exact .inl ⟨⟨xs, q, Nat.le_refl _⟩, hd σ H p⟩
theorem for_range {lo : Int} {n : Nat} {g : TG} {tb : TS} {D : Ends} {σ : St} {H : Hp} (Pv : Nat → St → Hp → Prop) (h0 : Pv 0 σ H)
    (hs : ∀ i σ H, i < n → Pv i σ H → g (.int (lo + i)) σ H fun σ2 H2 => tb { D with nx := Pv (i + 1), ct := Pv (i + 1), bk := D.nx } σ2 H2) (hd : ∀ σ H, Pv n σ H → D.nx σ H) :
    ∃ W : Nat → Nat → St → Hp → Prop, (∃ m, W 0 m σ H) ∧ ∀ i m σ H, W i m σ H →
      ((Itr lo n).stop i H ∧ D.nx σ H) ∨ ((Itr lo n).go i H ∧ ∃ N : St → Hp → Prop, (∀ σ' H', N σ' H' → ∃ m', m' < m ∧ W (i + 1) m' σ' H') ∧ ∀ x H', (Itr lo n).yld i H x H' → g x σ H' fun σ2 H2 => tb { D with nx := N, ct := N, bk := D.nx } σ2 H2) := by
  refine ⟨fun i m σ H => m = n - i ∧ i ≤ n ∧ Pv i σ H, ⟨n, by simp, Nat.zero_le _, h0⟩, ?_⟩
  rintro i m σ H ⟨rfl, hi, p⟩
  by_cases hlt : i < n
  · refine .inr ⟨hlt, Pv (i + 1), fun σ' H' p' => ⟨n - (i + 1), by omega, rfl, hlt, p'⟩, fun x H' y => ?_⟩
    obtain ⟨e, y⟩ := y
    subst e y
    exact hs i σ _ hlt p
  · have e : i = n := by omega
    subst e
    exact .inl ⟨Nat.le_refl _, hd σ H p⟩
/-- while, by a word and a measure of the state -/
theorem while_by {c : TT} {tb : TS} {D : Ends} {σ : St} {H : Hp} (Pv : St → Hp → Prop) (μ : St → Hp → Nat) (h0 : Pv σ H)
    (hs : ∀ σ H, Pv σ H → c σ H fun b H1 => if b = true then tb { D with nx := fun σ' H' => Pv σ' H' ∧ μ σ' H' < μ σ H, ct := fun σ' H' => Pv σ' H' ∧ μ σ' H' < μ σ H, bk := D.nx } σ H1 else D.nx σ H1)
    (mono : ∀ σ H Q Q', (∀ b H1, Q b H1 → Q' b H1) → c σ H Q → c σ H Q') : tWhile c tb D σ H := by
  refine ⟨fun m σ H => m = μ σ H ∧ Pv σ H, ⟨_, rfl, h0⟩, ?_⟩
  rintro m σ H ⟨rfl, p⟩
  refine mono σ H _ _ (fun b H1 q => ?_) (hs σ H p)
  cases b with
  | true => exact ⟨_, fun σ' H' ⟨p', l⟩ => ⟨_, l, rfl, p'⟩, q⟩
  | false => exact q
end L2

namespace L2
open PySem PySem.Spec PyProof.Rows

abbrev R2 := V → V → Hp → VK → Prop
/-- a two-place operation on values: f is binaryOp op, inplaceOp op or compareOp op -/
def OpR (X : Cx) (f : Value → Value → Sem Value) (r : R2) : Prop :=
  ∀ (pins : List (Addr × Obj)) (s : Shared) (σ : St) (H : Hp) (x y : V) (v u : Value) (Q : VK), Inv X pins σ H s → RelV x v → RelV y u → r x y H Q →
    wpAny (model X.prog X.w) X.A (f v u) (EP X pins σ Q) X.xe s
/-- a one-place operation -/
def UnR (X : Cx) (f : Value → Sem Value) (r : V → Hp → VK → Prop) : Prop :=
  ∀ (pins : List (Addr × Obj)) (s : Shared) (σ : St) (H : Hp) (x : V) (v : Value) (Q : VK), Inv X pins σ H s → RelV x v → r x H Q →
    wpAny (model X.prog X.w) X.A (f v) (EP X pins σ Q) X.xe s
/-- a call of a value that is known (a builtin, a type) with values -/
def CallR (X : Cx) (f : Value) (r : List V → Hp → VK → Prop) : Prop :=
  ∀ (pins : List (Addr × Obj)) (s : Shared) (σ : St) (H : Hp) (xs : List V) (us : List Value) (Q : VK), Inv X pins σ H s → Vals xs us → r xs H Q →
    wpAny (model X.prog X.w) X.A (call f us) (EP X pins σ Q) X.xe s
/-- a value's truth -/
def TruR (X : Cx) (r : V → Hp → (Bool → Hp → Prop) → Prop) : Prop :=
  ∀ (pins : List (Addr × Obj)) (s : Shared) (σ : St) (H : Hp) (x : V) (v : Value) (Q : Bool → Hp → Prop), Inv X pins σ H s → RelV x v → r x H Q →
    wpAny (model X.prog X.w) X.A (truthy v) (TP X pins σ Q) X.xe s

def tOp (r : R2) (ta tb : TE) : TE := fun σ H Q => ta σ H fun x H1 => tb σ H1 fun y H2 => r x y H2 Q
def tUn (r : V → Hp → VK → Prop) (ta : TE) : TE := fun σ H Q => ta σ H fun x H1 => r x H1 Q
/-- ints in, under C, and a value out -/
def rI (C : Int → Int → Prop) (g : Int → Int → V) : R2 := fun x y H Q => ∃ i j, x = .int i ∧ y = .int j ∧ C i j ∧ Q (g i j) H
def rI0 (g : Int → Int → V) : R2 := fun x y H Q => ∃ i j, x = .int i ∧ y = .int j ∧ Q (g i j) H
def rU (g : Int → V) : V → Hp → VK → Prop := fun x H Q => ∃ i, x = .int i ∧ Q (g i) H

section
variable {X : Cx} {a b c : Expr} {ta tb tc : TE} {pos : Pos}

theorem binT (ha : PE X a ta) (hb : PE X b tb) {pins : List (Addr × Obj)} {s : Shared} {σ : St} {H : Hp} {R : V → V → Hp → Prop} (I : Inv X pins σ H s)
    (h : ta σ H fun x H1 => tb σ H1 fun y H2 => R x y H2) {Q : Value → Shared → Prop} {f : Value → Value → Sem Value}
    (hf : ∀ v u s2 x y H2, Inv X pins σ H2 s2 → RelV x v → RelV y u → R x y H2 → wpAny (model X.prog X.w) X.A (f v u) Q X.xe s2) :
    wpAny (model X.prog X.w) X.A (eval a X.env) (fun v s₁ => wpAny (model X.prog X.w) X.A (eval b X.env) (fun u s₂ => wpAny (model X.prog X.w) X.A (f v u) Q X.xe s₂) X.xe s₁) X.xe s := by
  refine thn (ha pins s σ H _ I h) fun v s1 ⟨x, H1, I1, r1, q1⟩ => ?_
  refine thn (hb pins s1 σ H1 _ I1 q1) fun u s2 ⟨y, H2, I2, r2, q2⟩ => ?_
  exact hf v u s2 x y H2 I2 r1 r2 q2

theorem pe_op {op : Operator} {r : R2} (ho : OpR X (binaryOp op) r) (ha : PE X a ta) (hb : PE X b tb) : PE X (.BinOp a op b pos) (tOp r ta tb) := by
  intro pins s σ H Q I h
  exact wpAny_BinOp (binT ha hb I h fun v u s2 x y H2 I2 rx ry q => ho pins s2 σ H2 x y v u Q I2 rx ry q)
theorem pe_un {op : UnaryOp} {r : V → Hp → VK → Prop} (ho : UnR X (unaryOp op) r) (ha : PE X a ta) : PE X (.UnaryOp op a pos) (tUn r ta) := by
  intro pins s σ H Q I h
  exact UnaryOp_ (thn (ha pins s σ H _ I h) fun v s1 ⟨x, H1, I1, r1, q1⟩ => ho pins s1 σ H1 x v Q I1 r1 q1)

/-! ### ints -/
theorem opI {f : Value → Value → Sem Value} {C : Int → Int → Prop} {g : Int → Int → Int}
    (rule : ∀ (i j : Int) (t u : Tok) (s : Shared) (Q : Value → Shared → Prop) (E : Value → Shared → Prop), C i j → Q (.int (g i j) s.toks) { s with toks := s.toks + 1 } → wpAny (model X.prog X.w) X.A (f (.int i t) (.int j u)) Q E s) :
    OpR X f (rI C fun i j => .int (g i j)) := by
  intro pins s σ H x y v u Q I rx ry h
  obtain ⟨i, j, rfl, rfl, hc, q⟩ := h
  obtain ⟨t, rfl⟩ := rx
  obtain ⟨t', rfl⟩ := ry
  exact rule i j t t' s _ _ hc ⟨.int (g i j), H, I.tok _, ⟨_, rfl⟩, q⟩
theorem opI0 {f : Value → Value → Sem Value} {g : Int → Int → Int}
    (rule : ∀ (i j : Int) (t u : Tok) (s : Shared) (Q : Value → Shared → Prop) (E : Value → Shared → Prop), Q (.int (g i j) s.toks) { s with toks := s.toks + 1 } → wpAny (model X.prog X.w) X.A (f (.int i t) (.int j u)) Q E s) :
    OpR X f (rI0 fun i j => .int (g i j)) := by
  intro pins s σ H x y v u Q I rx ry h
  obtain ⟨i, j, rfl, rfl, q⟩ := h
  obtain ⟨t, rfl⟩ := rx
  obtain ⟨t', rfl⟩ := ry
  exact rule i j t t' s _ _ ⟨.int (g i j), H, I.tok _, ⟨_, rfl⟩, q⟩
theorem opB0 {f : Value → Value → Sem Value} {g : Int → Int → Bool}
    (rule : ∀ (i j : Int) (t u : Tok) (s : Shared) (Q : Value → Shared → Prop) (E : Value → Shared → Prop), Q (.bool (g i j)) s → wpAny (model X.prog X.w) X.A (f (.int i t) (.int j u)) Q E s) :
    OpR X f (rI0 fun i j => .bl (g i j)) := by
  intro pins s σ H x y v u Q I rx ry h
  obtain ⟨i, j, rfl, rfl, q⟩ := h
  obtain ⟨t, rfl⟩ := rx
  obtain ⟨t', rfl⟩ := ry
  exact rule i j t t' s _ _ ⟨.bl (g i j), H, I, rfl, q⟩

def CDiv (i j : Int) : Prop := 0 < j ∧ j < 1073741824
def CPow (i j : Int) : Prop := 0 ≤ j ∧ j ≤ 1000000 ∧ i.natAbs < 2 ^ 64
def CMul (i j : Int) : Prop := (-(2 ^ 64) < i ∧ i < 2 ^ 64) ∨ (-(2 ^ 64) < j ∧ j < 2 ^ 64)
theorem CMul.ok {i j : Int} (h : CMul i j) : IntMulOk i j := by
  rcases h with ⟨h1, h2⟩ | ⟨h1, h2⟩
  · exact .of_left (intBits_le_64 h1 h2)
  · exact .of_right (intBits_le_64 h1 h2)
theorem two_pow_nn (k : Nat) : (0 : Int) ≤ 2 ^ k := by
  rw [two_pow_cast]
  exact Int.natCast_nonneg _

theorem op_add : OpR X (binaryOp .Add) (rI0 fun i j => .int (i + j)) := opI0 fun _ _ _ _ _ _ _ q => add_int q
theorem op_sub : OpR X (binaryOp .Sub) (rI0 fun i j => .int (i - j)) := opI0 fun _ _ _ _ _ _ _ q => sub_int q
theorem op_mul : OpR X (binaryOp .Mult) (rI CMul fun i j => .int (i * j)) := opI fun _ _ _ _ _ _ _ hc q => mul_int q hc.ok
/-- // by a positive divisor -/
theorem op_fdiv : OpR X (binaryOp .FloorDiv) (rI CDiv fun i j => .int (i / j)) := opI fun i j _ _ _ _ _ hc q => by
  have h1 : (0 : Int) < j := hc.1
  have h2 : j < 1073741824 := hc.2
  exact floordiv_int (by omega) (by rw [Int.fdiv_eq_ediv_of_nonneg i (by omega)]; exact q) (.inl (PyProof.noPylong_small (by omega)))
/-- % by a positive divisor of any size -/
theorem op_mod : OpR X (binaryOp .Mod) (rI (fun _ j => 0 < j) fun i j => .int (i % j)) := opI fun i j _ _ _ _ _ hc q => by
  have h1 : (0 : Int) < j := hc
  exact mod_int' (by omega) (by rw [Int.fmod_eq_emod_of_nonneg i (by omega)]; exact q)
theorem op_shl : OpR X (binaryOp .LShift) (rI CPow fun i j => .int (i * 2 ^ j.toNat)) := opI fun _ _ _ _ _ _ _ hc q => lshift_int_small hc.1 hc.2.1 hc.2.2 q
theorem op_shr : OpR X (binaryOp .RShift) (rI (fun _ j => 0 ≤ j) fun i j => .int (i / 2 ^ j.toNat)) := opI fun i j _ _ _ _ _ hc q =>
  rshift_int hc (by rw [Int.fdiv_eq_ediv_of_nonneg i (two_pow_nn _)]; exact q)
theorem op_and : OpR X (binaryOp .BitAnd) (rI0 fun i j => .int (Builtin.bitAnd i j)) := opI0 fun _ _ _ _ _ _ _ q => and_int q
theorem op_xor : OpR X (binaryOp .BitXor) (rI0 fun i j => .int (Builtin.bitXor i j)) := opI0 fun _ _ _ _ _ _ _ q => xor_int q

theorem unI {f : Value → Sem Value} {g : Int → Int}
    (rule : ∀ (i : Int) (t : Tok) (s : Shared) (Q : Value → Shared → Prop) (E : Value → Shared → Prop), Q (.int (g i) s.toks) { s with toks := s.toks + 1 } → wpAny (model X.prog X.w) X.A (f (.int i t)) Q E s) :
    UnR X f (rU fun i => .int (g i)) := by
  intro pins s σ H x v Q I rx h
  obtain ⟨i, rfl, q⟩ := h
  obtain ⟨t, rfl⟩ := rx
  exact rule i t s _ _ ⟨.int (g i), H, I.tok _, ⟨_, rfl⟩, q⟩
theorem un_neg : UnR X (unaryOp .USub) (rU fun i => .int (-i)) := unI fun _ _ _ _ _ q => neg_int q

end

/-! ### comparisons -/
/-- the scalars that == tells apart as data does -/
def scal : V → V → Bool
  | .non, .non => true | .non, .int _ => true | .int _, .non => true | .non, .bl _ => true | .bl _, .non => true | .non, .str _ => true | .str _, .non => true
  | .int _, .int _ => true | .bl _, .bl _ => true | .str _, .str _ => true | .byt _, .byt _ => true
  | .int _, .str _ => true | .str _, .int _ => true | .bl _, .str _ => true | .str _, .bl _ => true
  | _, _ => false
def rEq : R2 := fun x y H Q => scal x y = true ∧ Q (.bl (decide (x = y))) H
def rNe : R2 := fun x y H Q => scal x y = true ∧ Q (.bl (!decide (x = y))) H

theorem dec_int {i j : Int} : decide (V.int i = V.int j) = (i == j) := by
  rw [Bool.eq_iff_iff]
  simp
theorem dec_bl {i j : Bool} : decide (V.bl i = V.bl j) = (i == j) := by
  rw [Bool.eq_iff_iff]
  simp
theorem dec_str {i j : Str} : decide (V.str i = V.str j) = (i == j) := by
  rw [Bool.eq_iff_iff]
  simp
theorem dec_byt {i j : Array UInt8} : decide (V.byt i = V.byt j) = (i.toList == j.toList) := by
  rw [Bool.eq_iff_iff]
  cases i
  cases j
  simp

section
variable {X : Cx} {a b c : Expr} {ta tb tc : TE} {pos : Pos}
theorem fin_bl {pins : List (Addr × Obj)} {σ : St} {H : Hp} {s : Shared} {Q : VK} {k k' : Bool} (I : Inv X pins σ H s) (q : Q (.bl k) H) (e : k = k') : EP X pins σ Q (.bool k') s := by
  subst e
  exact ⟨.bl k, H, I, rfl, q⟩
theorem op_eq : OpR X (compareOp .Eq) rEq := by
  intro pins s σ H x y v u Q I rx ry h
  obtain ⟨hs, q⟩ := h
  cases x with
  | non =>
    cases rx
    cases y with
    | non => cases ry; exact PySem.EqNone.eq_none_none (fin_bl I q (by simp))
    | bl j => cases ry; exact PySem.EqNone.eq_none_bool (fin_bl I q (by simp))
    | int j => obtain ⟨t', rfl⟩ := ry; exact PySem.EqNone.eq_none_int (fin_bl I q (by simp))
    | str j => obtain ⟨t', rfl⟩ := ry; exact PySem.EqNone.eq_none_str (fin_bl I q (by simp))
    | _ => exact absurd (show false = true from hs) Bool.false_ne_true
  | bl i =>
    cases rx
    cases y with
    | non => cases ry; exact PySem.EqNone.eq_bool_none (fin_bl I q (by simp))
    | bl j => cases ry; exact eq_bool (fin_bl I q dec_bl)
    | str j => obtain ⟨t', rfl⟩ := ry; exact PySem.EqMixed.eq_bool_str (fin_bl I q (by simp))
    | _ => exact absurd (show false = true from hs) Bool.false_ne_true
  | int i =>
    obtain ⟨t, rfl⟩ := rx
    cases y with
    | non => cases ry; exact PySem.EqNone.eq_int_none (fin_bl I q (by simp))
    | int j => obtain ⟨t', rfl⟩ := ry; exact eq_int (fin_bl I q dec_int)
    | str j => obtain ⟨t', rfl⟩ := ry; exact PySem.EqMixed.eq_int_str (fin_bl I q (by simp))
    | _ => exact absurd (show false = true from hs) Bool.false_ne_true
  | str i =>
    obtain ⟨t, rfl⟩ := rx
    cases y with
    | non => cases ry; exact PySem.EqNone.eq_str_none (fin_bl I q (by simp))
    | bl j => cases ry; exact PySem.EqMixed.eq_str_bool (fin_bl I q (by simp))
    | int j => obtain ⟨t', rfl⟩ := ry; exact PySem.EqMixed.eq_str_int (fin_bl I q (by simp))
    | str j => obtain ⟨t', rfl⟩ := ry; exact eq_str (fin_bl I q dec_str)
    | _ => exact absurd (show false = true from hs) Bool.false_ne_true
  | byt i =>
    obtain ⟨t, rfl⟩ := rx
    cases y with
    | byt j => obtain ⟨t', rfl⟩ := ry; exact PySem.W.eq_bytes (fin_bl I q dec_byt)
    | _ => exact absurd (show false = true from hs) Bool.false_ne_true
  | _ => cases y <;> exact absurd (show false = true from hs) Bool.false_ne_true
theorem op_ne : OpR X (compareOp .NotEq) rNe := by
  intro pins s σ H x y v u Q I rx ry h
  obtain ⟨hs, q⟩ := h
  cases x with
  | non =>
    cases rx
    cases y with
    | non => cases ry; exact PySem.EqNone.ne_none_none (fin_bl I q (by simp))
    | bl j => cases ry; exact PySem.EqNone.ne_none_bool (fin_bl I q (by simp))
    | int j => obtain ⟨t', rfl⟩ := ry; exact PySem.EqNone.ne_none_int (fin_bl I q (by simp))
    | str j => obtain ⟨t', rfl⟩ := ry; exact PySem.EqNone.ne_none_str (fin_bl I q (by simp))
    | _ => exact absurd (show false = true from hs) Bool.false_ne_true
  | bl i =>
    cases rx
    cases y with
    | non => cases ry; exact PySem.EqNone.ne_bool_none (fin_bl I q (by simp))
    | bl j => cases ry; exact ne_bool (fin_bl I q (congrArg not dec_bl))
    | str j => obtain ⟨t', rfl⟩ := ry; exact PySem.EqMixed.ne_bool_str (fin_bl I q (by simp))
    | _ => exact absurd (show false = true from hs) Bool.false_ne_true
  | int i =>
    obtain ⟨t, rfl⟩ := rx
    cases y with
    | non => cases ry; exact PySem.EqNone.ne_int_none (fin_bl I q (by simp))
    | int j => obtain ⟨t', rfl⟩ := ry; exact ne_int (fin_bl I q (congrArg not dec_int))
    | str j => obtain ⟨t', rfl⟩ := ry; exact PySem.EqMixed.ne_int_str (fin_bl I q (by simp))
    | _ => exact absurd (show false = true from hs) Bool.false_ne_true
  | str i =>
    obtain ⟨t, rfl⟩ := rx
    cases y with
    | non => cases ry; exact PySem.EqNone.ne_str_none (fin_bl I q (by simp))
    | bl j => cases ry; exact PySem.EqMixed.ne_str_bool (fin_bl I q (by simp))
    | int j => obtain ⟨t', rfl⟩ := ry; exact PySem.EqMixed.ne_str_int (fin_bl I q (by simp))
    | str j => obtain ⟨t', rfl⟩ := ry; exact ne_str (fin_bl I q (congrArg not dec_str))
    | _ => exact absurd (show false = true from hs) Bool.false_ne_true
  | byt i =>
    obtain ⟨t, rfl⟩ := rx
    cases y with
    | byt j => obtain ⟨t', rfl⟩ := ry; exact PySem.W.ne_bytes (fin_bl I q (congrArg not dec_byt))
    | _ => exact absurd (show false = true from hs) Bool.false_ne_true
  | _ => cases y <;> exact absurd (show false = true from hs) Bool.false_ne_true

theorem op_lt : OpR X (compareOp .Lt) (rI0 fun i j => .bl (decide (i < j))) := opB0 fun _ _ _ _ _ _ _ q => lt_int q
theorem op_le : OpR X (compareOp .LtE) (rI0 fun i j => .bl (decide (i ≤ j))) := opB0 fun _ _ _ _ _ _ _ q => le_int q
theorem op_gt : OpR X (compareOp .Gt) (rI0 fun i j => .bl (decide (j < i))) := opB0 fun _ _ _ _ _ _ _ q => gt_int q
theorem op_ge : OpR X (compareOp .GtE) (rI0 fun i j => .bl (decide (j ≤ i))) := opB0 fun _ _ _ _ _ _ _ q => ge_int q

/-- is None, is not None: the right side a value none -/
theorem op_isN : OpR X (compareOp .Is) (fun x y H Q => y = .non ∧ Q (.bl (decide (x = .non))) H) := by
  intro pins s σ H x y v u Q I rx ry h
  obtain ⟨rfl, q⟩ := h
  cases ry
  refine is_none_gen (fin_bl I q ?_)
  cases x <;> first
    | (cases rx; rfl)
    | (obtain ⟨t, rfl⟩ := rx; rfl)

theorem nomark (b : Expr) {op : CmpOp} (h : op ≠ .In := by decide) (h2 : op ≠ .NotIn := by decide) : behindInMarks op b = false := by
  have e1 : (op == CmpOp.In) = false := by cases op <;> first | rfl | exact absurd rfl h
  have e2 : (op == CmpOp.NotIn) = false := by cases op <;> first | rfl | exact absurd rfl h2
  cases b <;> simp [behindInMarks, e1, e2]
/-- a comparison as a value; hm: nomark b, or (for in, not in) by with_unfolding_all rfl -/
theorem pe_cmpR {op : CmpOp} {r : R2} (ho : OpR X (compareOp op) r) (ha : PE X a ta) (hb : PE X b tb) (hm : behindInMarks op b = false) : PE X (.Compare a [op] [b] pos) (tOp r ta tb) := by
  intro pins s σ H Q I h
  exact wpAny_Compare1 (binT ha hb I h fun v u s2 x y H2 I2 rx ry q => ho pins s2 σ H2 x y v u Q I2 rx ry q) hm
/-- a reading of a value as a test -/
def tTest (t : TE) : TT := fun σ H Q => t σ H fun x H' => ∃ k, x = .bl k ∧ Q k H'
theorem pt_cmpR {op : CmpOp} {r : R2} (ho : OpR X (compareOp op) r) (ha : PE X a ta) (hb : PE X b tb) (hm : behindInMarks op b = false) : PT X (.Compare a [op] [b] pos) (tTest (tOp r ta tb)) := by
  intro pins s σ H Q I h
  refine wpAny_isTrue_Compare1 (thn (ha pins s σ H _ I h) fun v s1 ⟨x, H1, I1, r1, q1⟩ => thn (hb pins s1 σ H1 _ I1 q1) fun u s2 ⟨y, H2, I2, r2, q2⟩ =>
    thn (ho pins s2 σ H2 x y v u _ I2 r1 r2 q2) fun c s3 ⟨z, H3, I3, r3, k, e, q3⟩ => ?_) hm
  subst e
  cases r3
  exact wpAny_truthy_bool ⟨H3, I3, q3⟩
/-- a op1 b op2 c -/
def tChain (r r' : R2) (ta tb tc : TE) : TE := fun σ H Q => ta σ H fun x H1 => tb σ H1 fun y H2 => r x y H2 fun z H3 => ∃ k, z = .bl k ∧
  (if k = true then tc σ H3 fun w' H4 => r' y w' H4 Q else Q (.bl false) H3)
theorem pe_chain {op op' : CmpOp} {r r' : R2} (ho : OpR X (compareOp op) r) (ho' : OpR X (compareOp op') r') (ha : PE X a ta) (hb : PE X b tb) (hc : PE X c tc)
    (hm : lastMarks [op, op'] [b, c] = false := by with_unfolding_all rfl) : PE X (.Compare a [op, op'] [b, c] pos) (tChain r r' ta tb tc) := by
  intro pins s σ H Q I h
  refine Compare_chain (thn (ha pins s σ H _ I h) fun v s1 ⟨x, H1, I1, r1, q1⟩ => chain_link (thn (hb pins s1 σ H1 _ I1 q1) fun u s2 ⟨y, H2, I2, r2, q2⟩ =>
    thn (ho pins s2 σ H2 x y v u _ I2 r1 r2 q2) fun d s3 ⟨z, H3, I3, r3, k, e, q3⟩ => ?_)) hm
  subst e
  cases r3
  refine wpAny_truthy_bool ?_
  cases k with
  | false => exact ite_ff ⟨.bl false, H3, I3, rfl, q3⟩
  | true => exact ite_tt (chain_last (thn (hc pins s3 σ H3 _ I3 q3) fun w' s4 ⟨z', H4, I4, r4, q4⟩ => ho' pins s4 σ H4 y z' u w' Q I4 r2 r4 q4))

/-! ### truth -/
/-- a value's truth by the abstract heap -/
def TruV (K : PySem.W.Frag) (x : V) (H : Hp) (k : Bool) : Prop :=
  match x with
  | .non => k = false
  | .bl b => k = b
  | .int i => k = (i != 0)
  | .str y => y.length ≤ sizeLine ∧ k = ((y.length : Int) != 0)
  | .byt y => y.size ≤ sizeLine ∧ k = ((y.size : Int) != 0)
  | .ref p => (∃ xs, SqL K H p xs ∧ k = !xs.isEmpty) ∨ (∃ xs, SqT K H p xs ∧ k = !xs.isEmpty) ∨ ∃ kvs, H p = some (.dK kvs) ∧ k = !kvs.isEmpty
  | _ => False
theorem isEmpty_kv {κ : Type} {kvs : List (κ × V)} {vs : List (κ × Value)} (r : KV kvs vs) : (!vs.isEmpty) = !kvs.isEmpty := by
  cases r <;> rfl
theorem isEmpty_of {xs : List V} {its : List Value} (r : Vals xs its) : (!its.toArray.isEmpty) = !xs.isEmpty := by
  cases r <;> simp
theorem line63 : (sizeLine : Nat) < 2 ^ 63 := by rw [sizeLine_eq]; decide
theorem tru_ok : TruR X (fun x H Q => ∃ k, TruV X.K x H k ∧ Q k H) := by
  intro pins s σ H x v Q I rx h
  obtain ⟨k, e, q⟩ := h
  have hl := line63
  have hs : sizeLine = 16777216 := sizeLine_eq
  cases x with
  | non =>
    cases rx
    have e' : k = false := e
    subst e'
    exact truthy_none ⟨H, I, q⟩
  | bl b =>
    cases rx
    have e' : k = b := e
    subst e'
    exact wpAny_truthy_bool ⟨H, I, q⟩
  | int i =>
    obtain ⟨t, rfl⟩ := rx
    have e' : k = (i != 0) := e
    subst e'
    exact PySem.P.truthy_int ⟨H, I, q⟩
  | str y =>
    obtain ⟨t, rfl⟩ := rx
    obtain ⟨hy, e'⟩ : y.length ≤ sizeLine ∧ k = ((y.length : Int) != 0) := e
    subst e'
    exact PySem.P.truthy_str (by omega) ⟨H, I.tok _, q⟩
  | byt y =>
    obtain ⟨t, rfl⟩ := rx
    obtain ⟨hy, e'⟩ : y.size ≤ sizeLine ∧ k = ((y.size : Int) != 0) := e
    subst e'
    exact PySem.W.truthy_bytes (by omega) ⟨H, I.tok _, q⟩
  | ref p =>
    cases rx
    have e' : (∃ xs, SqL X.K H p xs ∧ k = !xs.isEmpty) ∨ (∃ xs, SqT X.K H p xs ∧ k = !xs.isEmpty) ∨ ∃ kvs, H p = some (.dK kvs) ∧ k = !kvs.isEmpty := e
    rcases e' with ⟨xs, hx, e'⟩ | ⟨xs, hx, e'⟩ | ⟨kvs, hx, e'⟩
    · subst e'
      obtain ⟨its, r, pl, hz⟩ := I.list hx
      have hlen := r.length
      exact wpAny_truthy_list pl.isList (by simp only [List.size_toArray]; omega) ⟨H, I.tok _, by rw [isEmpty_of r]; exact q⟩
    · subst e'
      obtain ⟨its, r, pl, hz⟩ := I.tuple hx
      have hlen := r.length
      exact truthy_tuple pl (by simp only [List.size_toArray]; omega) ⟨H, I.tok _, by rw [isEmpty_of r]; exact q⟩
    · subst e'
      obtain ⟨hz, hS, vs, r, m⟩ : kvs.length ≤ sizeLine ∧ (p == sysModules) = false ∧ ∃ vs, KV kvs vs ∧ s.heap.DictOf (mixKind X.prog X.w) p vs := I.hok p _ hx
      have hlen : kvs.length = vs.length := Paired.length r
      exact wpAny_truthy_dict hS m (by omega) ⟨H, I.tok _, by rw [isEmpty_kv r]; exact q⟩
  | _ => exact (show False from e).elim
/-- any expression whose test is its value's truth (a name, a call, a subscript, a field ..: he by fun _ => rfl) -/
theorem pt_truth (ha : PE X a ta) (he : ∀ whole, isTrue a X.env whole = (do let v ← whole; standAt a.pos; holding [v] (truthy v))) :
    PT X a (fun σ H Q => ta σ H fun x H' => ∃ k, TruV X.K x H' k ∧ Q k H') := by
  intro pins s σ H Q I h
  exact isTrue_plain (thn (ha pins s σ H _ I h) fun v s1 ⟨x, H1, I1, r1, q1⟩ => tru_ok pins s1 σ H1 x v Q I1 r1 q1) (he _)

/-! ### scalar builtins, by CallR -/
theorem vals1 {x : V} {us : List Value} (r : Vals [x] us) : ∃ u, us = [u] ∧ RelV x u := by
  cases r with
  | cons r1 r2 => cases r2; exact ⟨_, rfl, r1⟩
theorem vals2 {x y : V} {us : List Value} (r : Vals [x, y] us) : ∃ u w', us = [u, w'] ∧ RelV x u ∧ RelV y w' := by
  cases r with
  | cons r1 r2 =>
    cases r2 with
    | cons r3 r4 => cases r4; exact ⟨_, _, rfl, r1, r3⟩
theorem call_max2 (hc : X.calm = true) : CallR X (.builtin "max") (fun xs H Q => ∃ i j, xs = [.int i, .int j] ∧ Q (.int (if j > i then j else i)) H) := by
  intro pins s σ H xs us Q I r h
  obtain ⟨i, j, rfl, q⟩ := h
  obtain ⟨u, w', rfl, ⟨t, rfl⟩, ⟨t', rfl⟩⟩ := vals2 r
  refine max_two_ints (I.ok.hd hc) fun h' tk k => ⟨_, H, I.kept k, ?_, q⟩
  by_cases hj : j > i
  · rw [if_pos hj, if_pos hj]; exact ⟨_, rfl⟩
  · rw [if_neg hj, if_neg hj]; exact ⟨_, rfl⟩
theorem call_min2 (hc : X.calm = true) : CallR X (.builtin "min") (fun xs H Q => ∃ i j, xs = [.int i, .int j] ∧ Q (.int (if j < i then j else i)) H) := by
  intro pins s σ H xs us Q I r h
  obtain ⟨i, j, rfl, q⟩ := h
  obtain ⟨u, w', rfl, ⟨t, rfl⟩, ⟨t', rfl⟩⟩ := vals2 r
  refine min_two_ints (I.ok.hd hc) fun h' tk k => ⟨_, H, I.kept k, ?_, q⟩
  by_cases hj : j < i
  · rw [if_pos hj, if_pos hj]; exact ⟨_, rfl⟩
  · rw [if_neg hj, if_neg hj]; exact ⟨_, rfl⟩
end
end L2

namespace L2
open PySem PySem.Spec PyProof.Rows

/-! ### an instance, its attributes a map -/
structure ObjM (h : Heap) (x dx C : Addr) (mA : Str → Option Value) : Prop where
  obj : h.get? x = some (PySem.W.instObj C dx)
  ns : h.Ns1 dx mA
  ne : dx ≠ x

theorem lookIn_ns {h : Heap} {dx : Addr} {mA : Str → Option Value} (n : h.Ns1 dx mA) : ∃ od, h.get? dx = some od ∧ ∀ name, PySem.W.lookIn name od = some (mA name) := by
  obtain ⟨o, es, ep, ho, hd, hk, _, hm⟩ := n
  refine ⟨o, ho, fun name => ?_⟩
  have e := hm name
  unfold nsFind findBy at e
  rw [← Array.find?_toList] at e
  unfold PySem.W.lookIn
  rw [hd]
  dsimp only
  split
  · rename_i y q
    rw [q] at e
    exact congrArg some e
  · rename_i q
    rw [q] at e
    have a : es.toList.any (·.refKey) = false := by
      rw [List.any_eq_false]
      intro y hy
      obtain ⟨z, t, hkey⟩ := hk y (Array.mem_toList_iff.mp hy)
      simp [DictEntry.refKey, hkey]
    have a' : ¬ es.toList.any (·.refKey) = true := by rw [a]; exact Bool.false_ne_true
    rw [if_neg a']
    exact congrArg some e

theorem ObjM.look {h : Heap} {x dx C : Addr} {mA : Str → Option Value} (I : ObjM h x dx C mA) : ∃ od, PySem.W.InstAt h x (PySem.W.instObj C dx) C (some od) ∧ ∀ name, PySem.W.lookIn name od = some (mA name) :=
  let ⟨od, ho, hl⟩ := lookIn_ns I.ns
  ⟨od, ⟨I.obj, rfl, rfl, ho⟩, hl⟩

section
variable {prog : Program} {w : World} {A : Around} {E : Value → Shared → Prop} {s : Shared} {K : PySem.W.Frag} {x dx C f : Addr} {mA : Str → Option Value} {name : Str} {v : Value}

theorem get_map {expr : Bool} {Q : Value → Shared → Prop} (X : K.In s.heap) (I : ObjM s.heap x dx C mA) (hg : PySem.W.plainGet K C name = true) (hh : PySem.W.hasDictIn K C = true)
    (ha : PySem.W.findIn K (.ref C) name = some none) (hv : mA name = some v) (hv' : PySem.W.handedIn v = true) (h : Q v { s with toks := s.toks + 1 }) :
    wpAny (model prog w) A (getAttr (.ref x) name expr) Q E s := by
  obtain ⟨od, J, hl⟩ := I.look
  exact PySem.W.get_value X J (PySem.W.plainGet_of hg).1 (PySem.W.findObj_own hh ha rfl (by rw [hl, hv])) hv' h

theorem get_meth {pl : Sem Bool} {Q : Value × List Value → Shared → Prop} (X : K.In s.heap) (I : ObjM s.heap x dx C mA) (hg : PySem.W.plainGet K C name = true)
    (hf : PySem.W.findIn K (.ref C) name = some (some (.ref f))) (ht : PySem.W.isFn K (.ref f) = true) (hv : mA name = none) (h : Q (.ref f, [.ref x]) s) :
    wpAny (model prog w) A (getMethod (.ref x) name pl) Q E s := by
  obtain ⟨od, J, hl⟩ := I.look
  exact PySem.W.method_fn X J (PySem.W.plainGet_of hg).1 (PySem.W.plainGet_of hg).2 hf (beq_iff_eq.mp ht) (by show (PySem.W.lookIn name od).map (·.isSome) = some false; rw [hl, hv]; rfl) h

theorem set_map {ns : List Str} {Q : Unit → Shared → Prop} (X : K.In s.heap) (I : ObjM s.heap x dx C mA)
    (hs : PySem.W.findIn K (.ref C) "__setattr__" = some (some (.builtin "object.__setattr__"))) (hp : PySem.W.plainOver K C = true) (ht : PySem.W.takerIn K C name = some none) (hh : PySem.W.hasDictIn K C = true)
    (hw : PySem.Within mA ns) (hsz : ns.length ≤ sizeLine)
    (h : ∀ h', ObjM h' x dx C (fun y => if y = name then some v else mA y) → Heap.SameBut dx s.heap h' → Q () { s with heap := h', toks := s.toks + 2 }) :
    wpAny (model prog w) A (setAttr (.ref x) name v) Q E s := by
  obtain ⟨od, J, hl⟩ := I.look
  refine PySem.W.set_plain X J hs (PySem.W.osa_open (s := { s with toks := s.toks + 1 }) (r := none) X J hp ht fun b => ?_)
  obtain ⟨cd, hc, hd'⟩ := PySem.W.any_some hh
  have hx : s.heap.get? x = some ⟨.ref C, some dx, .plain, #[]⟩ := I.obj
  refine wpAny_bind (wpAny_pure (wpAny_bind (wpAny_bind (wpAny_loadPart hx (wpAny_bind (PySem.W.Looks.here (s := { s with toks := s.toks + 1 }) (PySem.W.looks_clsIn X hc) ?_))))))
  rw [hd']
  refine wpAny_pure (a := some dx) (wpAny_bind (wpAny_pure (wpAny_bind ?_)))
  refine wpAny_nsSet1 (s := { s with toks := s.toks + 1 }) I.ns fun h' hn2 hs2 => ?_
  obtain ⟨oD, esD, epD, hoD, hdD, hcD⟩ := hn2.count (PySem.Within.cons name v hw)
  refine wpAny_bind (wpAny_lookBehind hoD (by rw [hdD]; exact pastItsLine_dict (Nat.le_trans hcD (by rw [List.length_cons]; omega))) ?_)
  exact wpAny_pure (h _ ⟨(hs2.2 _ (Ne.symm I.ne)).trans I.obj, hn2, I.ne⟩ hs2)

/-- C(..): the dict at the heap's end, the instance behind it; then its __init__ -/
theorem make_map {R : Result → Shared → Prop} {vs : List Value} {kw : List (Str × Value)} (X : K.In s.heap) (hm : PySem.W.makesIn K C = true)
    (hi : PySem.W.findIn K (.ref C) "__init__" = some (some (.ref f))) (hf : PySem.W.typeIn K (.ref f) = some (.type "function"))
    (h : codeAny (model prog w) (A.under (.builtin "type.__call__" ⟨.ref C :: vs, kw⟩)) (.call (.ref f) ⟨.ref (s.heap.objs.size + 1) :: vs, kw⟩) (PySem.W.InitBack (s.heap.objs.size + 1) R)
      { s with heap := (s.heap.push PySem.W.emptyDict).push (PySem.W.instObj C s.heap.objs.size) }) :
    codeAny (model prog w) A (.call (.ref C) ⟨vs, kw⟩) R s := by
  obtain ⟨hh, g, d, t, os⟩ := s
  exact PySem.W.make_core (PySem.W.makes_of X hm) (PySem.W.looks_findIn X hi) (fun self => PySem.W.bind_fn X self hf) (.inl rfl) h
end

/-! ### the attributes as a list of pairs -/
def putF (f : Str) (v : V) : List (Str × V) → List (Str × V)
  | [] => [(f, v)]
  | (g, x) :: r => if g = f then (g, v) :: r else (g, x) :: putF f v r
theorem lookup_putF (f g : Str) (v : V) : ∀ fs : List (Str × V), (putF f v fs).lookup g = if g = f then some v else fs.lookup g
  | [] => by
    show List.lookup g [(f, v)] = _
    by_cases h : g = f
    · have hb : (g == f) = true := beq_iff_eq.mpr h
      simp only [List.lookup, hb, if_pos h]
    · have hb : (g == f) = false := beq_eq_false_iff_ne.mpr h
      simp only [List.lookup, hb, if_neg h]
  | (k, x) :: r => by
    have ih := lookup_putF f g v r
    rw [show putF f v ((k, x) :: r) = (if k = f then (k, v) :: r else (k, x) :: putF f v r) from rfl]
    by_cases hk : k = f
    · rw [if_pos hk]
      by_cases h : g = k
      · have hb : (g == k) = true := beq_iff_eq.mpr h
        simp only [List.lookup, hb, if_pos (h.trans hk)]
      · have hb : (g == k) = false := beq_eq_false_iff_ne.mpr h
        simp only [List.lookup, hb, if_neg (fun e : g = f => h (e.trans hk.symm))]
    · rw [if_neg hk]
      by_cases h : g = k
      · have hb : (g == k) = true := beq_iff_eq.mpr h
        simp only [List.lookup, hb, if_neg (fun e : g = f => hk (h.symm.trans e))]
      · have hb : (g == k) = false := beq_eq_false_iff_ne.mpr h
        simp only [List.lookup, hb]
        exact ih
theorem keys_putF (f : Str) (v : V) : ∀ fs : List (Str × V), f ∈ (putF f v fs).map (·.1) ∧ ∀ g, g ∈ fs.map (·.1) → g ∈ (putF f v fs).map (·.1)
  | [] => ⟨by simp [putF], fun g h => by simp at h⟩
  | (k, x) :: r => by
    obtain ⟨i1, i2⟩ := keys_putF f v r
    rw [show putF f v ((k, x) :: r) = (if k = f then (k, v) :: r else (k, x) :: putF f v r) from rfl]
    by_cases hk : k = f
    · rw [if_pos hk]
      subst hk
      exact ⟨by simp, fun g h => by simpa using h⟩
    · rw [if_neg hk]
      refine ⟨?_, fun g h => ?_⟩
      · rw [List.map_cons]
        exact List.mem_cons_of_mem _ i1
      · rw [List.map_cons] at h ⊢
        rcases List.mem_cons.mp h with e | e
        · exact List.mem_cons.mpr (.inl e)
        · exact List.mem_cons_of_mem _ (i2 g e)
theorem length_putF (f : Str) (v : V) : ∀ fs : List (Str × V), (putF f v fs).length ≤ fs.length + 1
  | [] => by simp [putF]
  | (k, x) :: r => by
    have ih := length_putF f v r
    rw [show putF f v ((k, x) :: r) = (if k = f then (k, v) :: r else (k, x) :: putF f v r) from rfl]
    by_cases hk : k = f
    · rw [if_pos hk, List.length_cons, List.length_cons]; omega
    · rw [if_neg hk, List.length_cons, List.length_cons]; omega

theorem RelO.some_of {v : V} {o : Option Value} (r : RelO (some v) o) : ∃ u, o = some u ∧ RelV v u := by
  cases o with
  | none => exact (show False from r).elim
  | some u => exact ⟨u, rfl, r⟩
theorem RelO.none_of {o : Option Value} (r : RelO none o) : o = none := by
  cases o with
  | none => rfl
  | some u => exact (show False from r).elim
theorem handed_of {v : V} {u : Value} (r : RelV v u) : PySem.W.handedIn u = true := by
  cases v with
  | non => cases (show u = Value.none from r); rfl
  | bl b => cases (show u = Value.bool b from r); rfl
  | int i => obtain ⟨t, e⟩ := (show ∃ t, u = Value.int i t from r); cases e; rfl
  | str x => obtain ⟨t, e⟩ := (show ∃ t, u = Value.str x t from r); cases e; rfl
  | byt b => obtain ⟨t, e⟩ := (show ∃ t, u = Value.bytes b t from r); cases e; rfl
  | flt b => obtain ⟨t, e⟩ := (show ∃ t, u = Value.float b t from r); cases e; rfl
  | ref a => cases (show u = Value.ref a from r); rfl
  | ty n => cases (show u = Value.type n from r); rfl

section
variable {P : Program} {w : World} {H H' : Hp} {h h' : Heap} {a C dx : Addr} {fs fs' : List (Str × V)}
theorem ins_get (hok : HOk P w H h) (e : H a = some (.ins C dx fs)) : ∃ mA, ObjM h a dx C mA ∧ (∀ f, RelO (fs.lookup f) (mA f)) ∧ PySem.Within mA (fs.map (·.1)) ∧ fs.length ≤ 1000 ∧ H dx = some (.own a) := by
  obtain ⟨d, z, ne, ob, mA, n, r, q⟩ := (show ObjOk P w H h a (.ins C dx fs) from hok a _ e)
  exact ⟨mA, ⟨ob, n, ne⟩, r, q, z, d⟩
end

/-! ### what of the text a class must have -/
structure Cls (K : PySem.W.Frag) (C : Addr) : Prop where
  pg : PySem.W.plainGet K C Str.empty = true
  hd : PySem.W.hasDictIn K C = true
  po : PySem.W.plainOver K C = true
  sa : PySem.W.findIn K (.ref C) "__setattr__" = some (some (.builtin "object.__setattr__"))
theorem Cls.get {K : PySem.W.Frag} {C : Addr} (c : Cls K C) (f : Str) : PySem.W.plainGet K C f = true := c.pg
/-- no class of it has the name -/
def NoAttr (K : PySem.W.Frag) (C : Addr) (f : Str) : Prop := PySem.W.findIn K (.ref C) f = some none
theorem NoAttr.taker {K : PySem.W.Frag} {C : Addr} {f : Str} (n : NoAttr K C f) : PySem.W.takerIn K C f = some none := by
  unfold PySem.W.takerIn
  rw [show PySem.W.findIn K (.ref C) f = some none from n]
  rfl
/-- a method: a plain def of the class or of one above it -/
structure Meth (K : PySem.W.Frag) (C : Addr) (m : Str) (f : Addr) : Prop where
  at_ : PySem.W.findIn K (.ref C) m = some (some (.ref f))
  fn : PySem.W.isFn K (.ref f) = true
  kp : PySem.W.keepIn K (.ref f) = true

section
variable {X : Cx} {pins : List (Addr × Obj)} {σ : St} {H : Hp} {s : Shared} {a C dx : Addr} {fs : List (Str × V)} {f : Str} {v : V} {A : Around} {E : Value → Shared → Prop}

theorem getattr_ok {b : Bool} {Q : Value → Shared → Prop} (I : Inv X pins σ H s) (e : H a = some (.ins C dx fs)) (c : Cls X.K C) (n : NoAttr X.K C f) (l : fs.lookup f = some v)
    (h : ∀ u s', Inv X pins σ H s' → RelV v u → Q u s') : wpAny (model X.prog X.w) A (getAttr (.ref a) f b) Q E s := by
  obtain ⟨mA, O, r, _, _, _⟩ := ins_get I.hok e
  obtain ⟨u, hu, ru⟩ := RelO.some_of (v := v) (o := mA f) (by rw [← l]; exact r f)
  exact get_map I.kIn O (c.get f) c.hd n hu (handed_of ru) (h u _ (I.tok _) ru)

theorem getmeth_ok {m : Str} {g : Addr} {pl : Sem Bool} {Q : Value × List Value → Shared → Prop} (I : Inv X pins σ H s) (e : H a = some (.ins C dx fs)) (c : Cls X.K C) (k : Meth X.K C m g) (l : fs.lookup m = none)
    (h : Q (.ref g, [.ref a]) s) : wpAny (model X.prog X.w) A (getMethod (.ref a) m pl) Q E s := by
  obtain ⟨mA, O, r, _, _, _⟩ := ins_get I.hok e
  have hn : mA m = none := RelO.none_of (by rw [← l]; exact r m)
  exact get_meth I.kIn O (c.get m) k.at_ k.fn hn h

theorem setattr_ok {y : V} {u : Value} {Q : Unit → Shared → Prop} (I : Inv X pins σ H s) (e : H a = some (.ins C dx fs)) (c : Cls X.K C) (n : NoAttr X.K C f) (hl : fs.length < 1000) (ry : RelV y u)
    (h : ∀ s', Inv X pins σ (upd H a (.ins C dx (putF f y fs))) s' → Q () s') : wpAny (model X.prog X.w) A (setAttr (.ref a) f u) Q E s := by
  obtain ⟨mA, O, r, wi, _, ho⟩ := ins_get I.hok e
  have hz : (fs.map (·.1)).length ≤ sizeLine := by rw [List.length_map, sizeLine_eq]; omega
  refine set_map I.kIn O c.sa c.po n.taker c.hd wi hz fun h' O' sb => h _ ?_
  have hd : ∃ o, h'.get? dx = some o := let ⟨o, _, _, e', _⟩ := O'.ns; ⟨o, e'⟩
  refine I.write (x := a) (e := dx) (by rw [e]; exact True.intro) (.inr ho) (fun b q hb z => (sb.2 b hb).trans z) hd ?_
  refine ⟨by rw [upd_ne O.ne]; exact ho, ?_, O.ne, O'.obj, _, O'.ns, fun g => ?_, fun g hg => ?_⟩
  · have := length_putF f y fs; omega
  · show RelO ((putF f y fs).lookup g) (if g = f then some u else mA g)
    rw [lookup_putF]
    by_cases q : g = f
    · rw [if_pos q, if_pos q]; exact ry
    · rw [if_neg q, if_neg q]; exact r g
  · by_cases q : g = f
    · rw [q]; exact (keys_putF f y fs).1
    · refine (keys_putF f y fs).2 g (wi g fun z => hg ?_)
      show (if g = f then some u else mA g) = none
      rw [if_neg q]; exact z

/-- a new instance, tracked, without attributes -/
theorem Inv.made (I : Inv X pins σ H s) : Inv X pins σ (upd (upd H s.heap.objs.size (.own (s.heap.objs.size + 1))) (s.heap.objs.size + 1) (.ins C s.heap.objs.size []))
    { s with heap := (s.heap.push PySem.W.emptyDict).push (PySem.W.instObj C s.heap.objs.size) } := by
  have e1 : (s.heap.push PySem.W.emptyDict).get? s.heap.objs.size = some PySem.W.emptyDict := Heap.get?_push_size s.heap rfl
  have e2 : ((s.heap.push PySem.W.emptyDict).push (PySem.W.instObj C s.heap.objs.size)).get? (s.heap.objs.size + 1) = some (PySem.W.instObj C s.heap.objs.size) := by
    have := Heap.get?_push_size (s.heap.push PySem.W.emptyDict) (o := PySem.W.instObj C s.heap.objs.size) rfl
    rwa [Heap.size_push] at this
  have e3 : (s.heap.push PySem.W.emptyDict).Ns s.heap.objs.size (fun _ => none) := ⟨PySem.W.emptyDict, #[], _, e1, rfl, (fun e he => absurd he (by simp)), fun _ => rfl⟩
  have I1 := I.laid (a := s.heap.objs.size) (o := .own (s.heap.objs.size + 1)) (h' := s.heap.push PySem.W.emptyDict) (t' := s.toks) (fun b u q => Heap.get?_push_of_some _ q) (Nat.le_refl _) ⟨_, e1⟩
  refine I1.laid (a := s.heap.objs.size + 1) (o := .ins C s.heap.objs.size []) (t' := s.toks) (fun b u q => Heap.get?_push_of_some _ q) (Nat.le_of_eq (Heap.size_push _ _)) ?_
  have ne : s.heap.objs.size ≠ s.heap.objs.size + 1 := Nat.ne_of_lt (Nat.lt_succ_self _)
  refine ⟨by rw [upd_ne ne, upd_same], Nat.zero_le _, ne, e2, fun _ => none, (Heap.Ns1.of_empty e3).at fun o q => Heap.get?_push_of_some _ q, fun _ => True.intro, fun y hy => absurd rfl hy⟩

/-- e.f where nothing but the object is asked: through attributeBase (super) and the last hold -/
theorem attr_of {prog : Program} {w : World} {env : Env} {e : Expr} {f : Str} {pos : Pos} {s : Shared} {Q : Value → Shared → Prop} (hb : attributeBase e f env (eval e env) = eval e env)
    (h : wpAny (model prog w) A (eval e env) (fun o s₁ => wpAny (model prog w) A (getAttr o f true) Q E s₁) E s) : wpAny (model prog w) A (eval (.Attribute e f pos) env) Q E s :=
  Attribute_any_ h (by rw [arm_eval_Attribute, hb])
end

/-! ### readings and rules -/
/-- e.f, an attribute of the instance -/
def tFld (K : PySem.W.Frag) (ta : TE) (f : Str) : TE := fun σ H Q => ta σ H fun x H1 => ∃ a C dx fs v, x = .ref a ∧ H1 a = some (.ins C dx fs) ∧ Cls K C ∧ NoAttr K C f ∧ fs.lookup f = some v ∧ Q v H1
/-- e.f = value -/
def sFld (K : PySem.W.Frag) (ta tv : TE) (f : Str) : TS := fun D σ H => tv σ H fun y H1 => ta σ H1 fun x H2 => ∃ a C dx fs, x = .ref a ∧ H2 a = some (.ins C dx fs) ∧ Cls K C ∧ NoAttr K C f ∧ fs.length < 1000 ∧
  D.nx σ (upd H2 a (.ins C dx (putF f y fs)))

section
variable {X : Cx} {o e value : Expr} {f : Str} {pos pos' tpos : Pos} {ta tv : TE}
theorem pe_fld (he : PE X e ta) (hb : attributeBase e f X.env (eval e X.env) = eval e X.env) : PE X (.Attribute e f pos) (tFld X.K ta f) := by
  intro pins s σ H Q I h
  refine attr_of hb (thn (he pins s σ H _ I h) fun u s1 ⟨x, H1, I1, rx, a, C, dx, fs, v, ex, ea, c, n, l, q⟩ => ?_)
  subst ex
  obtain rfl : u = Value.ref a := rx
  exact getattr_ok I1 ea c n l fun u' s2 I2 ru => ⟨v, H1, I2, ru, q⟩
theorem ps_fld (ha : PE X o ta) (hv : PE X value tv) (hs : swapsWith value (some (.Attribute o f pos')) pos.line X.env = pure false) : PS X (.Assign [.Attribute o f pos'] value pos) (sFld X.K ta tv f) := by
  intro pins s σ H D I h
  refine plainObj_wpAny_Assign_Attribute (thn (hv pins s σ H _ I h) fun u s1 ⟨y, H1, I1, ry, q⟩ => thn (ha pins s1 σ H1 _ I1 q) fun ov s2 ⟨x, H2, I2, rx, a, C, dx, fs, ex, ea, c, n, l, q2⟩ => ?_) hs
  subst ex
  obtain rfl : ov = Value.ref a := rx
  exact setattr_ok I2 ea c n l ry fun s3 I3 => ⟨σ, _, I3, q2⟩

/-- what is between an instance and its method: the tree of a method call -/
theorem methcall_of {pl : Sem Bool} {m : Str} {apos : Pos} {args : List Expr} {pins : List (Addr × Obj)} {s : Shared} {σ : St} {H : Hp} {Q : Value → Shared → Prop} {te : TE} (he : PE X e te) (I : Inv X pins σ H s)
    (h : te σ H fun x H1 => ∃ a C dx fs g, x = .ref a ∧ H1 a = some (.ins C dx fs) ∧ Cls X.K C ∧ Meth X.K C m g ∧ fs.lookup m = none ∧
      ∀ s1, Inv X pins σ H1 s1 → wpAny (model X.prog X.w) X.A (callWith pos (.ref g) [.ref a] (backTo pos (starEach args X.env)) (backToKw pos (keywordEach [] X.env))) Q X.xe s1)
    (ht : eval (.Call (.Attribute e m apos) args [] pos) X.env = (do
      let ov ← eval e X.env
      standAt apos.atName
      let (f, first) ← holding [ov] (getMethod ov m pl)
      callWith pos f first (backTo pos (starEach args X.env)) (backToKw pos (keywordEach [] X.env)))) :
    wpAny (model X.prog X.w) X.A (eval (.Call (.Attribute e m apos) args [] pos) X.env) Q X.xe s := by
  refine PySem.W.methodCall_KW (pl := pl) (thn (he pins s σ H _ I h) fun u s1 ⟨x, H1, I1, rx, a, C, dx, fs, g, ex, ea, c, k, l, q⟩ => ?_) ht
  subst ex
  obtain rfl : u = Value.ref a := rx
  exact getmeth_ok I1 ea c k l (q s1 I1)
end

/-! ### isinstance -/
section
variable {X : Cx} {pins : List (Addr × Obj)} {σ : St} {H : Hp} {s : Shared} {A : Around} {E : Value → Shared → Prop} {Q : Value → Shared → Prop} {c : Value} {b : Bool}
/-- the type of a value, as the fragment's deciders take it; for an instance its class -/
inductive TyOf (K : PySem.W.Frag) (H : Hp) : V → Value → Prop where
  | non : TyOf K H .non (.type "NoneType")
  | bl (x : Bool) : TyOf K H (.bl x) (.type "bool")
  | int (i : Int) : TyOf K H (.int i) (.type "int")
  | str (x : Str) : TyOf K H (.str x) (.type "str")
  | flt (x : UInt64) : TyOf K H (.flt x) (.type "float")
  | lst {a : Addr} {xs : List V} (e : H a = some (.lst xs)) : TyOf K H (.ref a) (.type "list")
  | frz {a : Addr} {o : Obj} {xs : List V} (e : H a = some (.frz o (.lst xs))) : TyOf K H (.ref a) (.type "list")
  | tup {a : Addr} {xs : List V} (e : H a = some (.tup xs)) : TyOf K H (.ref a) (.type "tuple")
  | dK {a : Addr} {kvs : List (Key × V)} (e : H a = some (.dK kvs)) : TyOf K H (.ref a) (.type "dict")
  | dT {a : Addr} {kvs : List (List Key × V)} (e : H a = some (.dT kvs)) : TyOf K H (.ref a) (.type "dict")
  | ins {a C dx : Addr} {fs : List (Str × V)} (e : H a = some (.ins C dx fs)) (cl : Cls K C) (ha : PySem.W.findIn K (.ref C) "__class__" = some (some (.builtin "object.__class__")))
      (hn : PySem.W.specialIn K (.builtin "object.__class__") "__get__" = some (some (.builtin "getset_descriptor.__get__"))) (htk : PySem.W.takesIn K (.builtin "object.__class__") = some true)
      (hm : PySem.W.mroIn K C (.type "object") = some true) : TyOf K H (.ref a) (.ref C)
/-- isinstance(x, c) for one class c, a built-in or an own one: kitOne's answer -/
theorem isinst_ok {x : V} {u t : Value} (I : Inv X pins σ H s) (rx : RelV x u) (ty : TyOf X.K H x t) (e : PySem.W.kitOne X.K t c = some b) (h : ∀ tk, Q (.bool b) { s with toks := tk }) :
    wpAny (model X.prog X.w) A (call (.builtin "isinstance") [u, c]) Q E s := by
  cases ty with
  | non => cases (show u = Value.none from rx); exact PySem.W.kia_one PySem.W.kitx_none I.kIn True.intro e (fun z => nomatch z) h
  | bl y => cases (show u = Value.bool y from rx); exact PySem.W.kia_one PySem.W.kitx_bool I.kIn True.intro e (fun z => nomatch z) h
  | int i => obtain ⟨t, q⟩ := (show ∃ t, u = Value.int i t from rx); cases q; exact PySem.W.kia_one PySem.W.kitx_int I.kIn True.intro e (fun z => nomatch z) h
  | str y => obtain ⟨t, q⟩ := (show ∃ t, u = Value.str y t from rx); cases q; exact PySem.W.kia_one PySem.W.kitx_str I.kIn True.intro e (fun z => nomatch z) h
  | flt y => obtain ⟨t, q⟩ := (show ∃ t, u = Value.float y t from rx); cases q; exact PySem.W.kia_one PySem.W.kitx_float I.kIn True.intro e (fun z => nomatch z) h
  | @lst a xs ea =>
    cases (show u = Value.ref a from rx)
    obtain ⟨_, _, n, _, h1⟩ := (show ObjOk X.prog X.w H s.heap a (.lst xs) from I.hok a _ ea)
    exact PySem.W.kia_one PySem.W.kitx_list I.kIn ⟨_, h1, rfl⟩ e (fun z => nomatch z) h
  | @frz a ob xs ea =>
    cases (show u = Value.ref a from rx)
    obtain ⟨_, _, _, n, _, h1⟩ := (show ObjOk X.prog X.w H s.heap a (.frz ob (.lst xs)) from I.hok a _ ea)
    exact PySem.W.kia_one PySem.W.kitx_list I.kIn ⟨_, h1, rfl⟩ e (fun z => nomatch z) h
  | @tup a xs ea =>
    cases (show u = Value.ref a from rx)
    obtain ⟨_, _, _, p⟩ := (show ObjOk X.prog X.w H s.heap a (.tup xs) from I.hok a _ ea)
    obtain ⟨o, h1, h2, _⟩ := p
    exact PySem.W.kia_one PySem.W.kitx_tuple I.kIn ⟨o, h1, h2⟩ e (fun z => nomatch z) h
  | @dK a kvs ea =>
    cases (show u = Value.ref a from rx)
    obtain ⟨_, _, vs, _, p⟩ := (show ObjOk X.prog X.w H s.heap a (.dK kvs) from I.hok a _ ea)
    obtain ⟨o, es, ep, h1, h2, _⟩ := p
    exact PySem.W.kia_one PySem.W.kitx_dict I.kIn ⟨o, h1, h2.1⟩ e (fun z => nomatch z) h
  | @dT a kvs ea =>
    cases (show u = Value.ref a from rx)
    obtain ⟨_, _, xs, _, o, es, ep, h1, h2, _⟩ := (show ObjOk X.prog X.w H s.heap a (.dT kvs) from I.hok a _ ea)
    exact PySem.W.kia_one PySem.W.kitx_dict I.kIn ⟨o, h1, h2.1⟩ e (fun z => nomatch z) h
  | @ins a C dx fs ea cl ha hn htk hm =>
    cases (show u = Value.ref a from rx)
    obtain ⟨mA, O, _⟩ := ins_get I.hok ea
    obtain ⟨od, J, _⟩ := O.look
    exact PySem.W.kia_one (PySem.W.kitx_own (cl.get _) cl.hd ha hn htk hm) I.kIn J e (fun z => nomatch z) h
end
end L2

namespace L2
open PySem PySem.Spec PyProof.Rows

/-! ### room -/
structure Room (k : Nat) (A : Around) : Prop where
  hd : A.handled = none
  dp : A.depth + 3 * k + 5 < recursionLimit
  un : A.units + 16 * k + 200 < cLine
theorem Room.mono {j k : Nat} {A : Around} (r : Room k A) (h : j ≤ k) : Room j A := ⟨r.hd, by have := r.dp; omega, by have := r.un; omega⟩
theorem Room.deeper {k : Nat} {A : Around} (r : Room (k + 1) A) (env : Env) : Room k (A.deeper env) :=
  ⟨r.hd, by have := r.dp; show A.depth + 1 + 3 * k + 5 < _; omega, by have := r.un; show A.units + 3 + 16 * k + 200 < _; omega⟩
theorem Room.in1 {k : Nat} {A : Around} (r : Room (k + 1) A) : Room k A.in1 :=
  ⟨r.hd, by have := r.dp; show A.depth + 3 * k + 5 < _; omega, by have := r.un; show A.units + 1 + 16 * k + 200 < _; omega⟩
theorem make_depth {A : Around} {C : Addr} {us : List Value} {kw : List (Str × Value)} : (A.under (.builtin "type.__call__" ⟨.ref C :: us, kw⟩)).depth = A.depth + 1 := by
  first | rfl | simp [Around.under, Code.weight, Code.isCreation, Code.isGuard, Code.isCaller, Code.frames, Code.isFrame, guardIds]
theorem make_units {A : Around} {C : Addr} {us : List Value} {kw : List (Str × Value)} : (A.under (.builtin "type.__call__" ⟨.ref C :: us, kw⟩)).units = A.units + 1 := by
  first | rfl | simp [Around.under, Code.cUnits, Code.frames, Code.isFrame]
theorem Room.make {k : Nat} {A : Around} (r : Room (k + 1) A) (C : Addr) (us : List Value) (kw : List (Str × Value)) : Room k (A.under (.builtin "type.__call__" ⟨.ref C :: us, kw⟩)) :=
  ⟨r.hd, by have := r.dp; rw [make_depth]; omega, by have := r.un; rw [make_units]; omega⟩
theorem Room.depth {k : Nat} {A : Around} (r : Room k A) : A.depth < recursionLimit := by have := r.dp; omega
theorem Room.units {k : Nat} {A : Around} (r : Room k A) : A.units + 64 < cLine := by have := r.un; omega
theorem Room.units0 {k : Nat} {A : Around} (r : Room k A) : A.units < cLine := by have := r.un; omega

/-! ### argument lists and displays -/
def tNil : TA := fun _ H Q => Q [] H
def tCons (ta : TE) (tr : TA) : TA := fun σ H Q => ta σ H fun x H1 => tr σ H1 fun xs H2 => Q (x :: xs) H2
section
variable {X : Cx} {e : Expr} {es : List Expr} {te : TE} {t : TA} {pos : Pos}
theorem pa_nil : PA X [] tNil := fun _ _ _ _ H Q I h => Calls.spliced_nil ⟨[], H, I, .nil, h⟩
theorem pa_cons (ha : PE X e te) (hr : PA X es t) (hs : starEach (e :: es) X.env = (false, eval e X.env) :: starEach es X.env := by rfl) : PA X (e :: es) (tCons te t) := by
  intro pos pins s σ H Q I h
  rw [hs]
  show wpAny _ _ (spliced ((false, eval e X.env) :: backTo pos (starEach es X.env))) _ _ s
  refine Calls.spliced_cons (thn (ha pins s σ H _ I h) fun u s1 ⟨x, H1, I1, r1, q1⟩ => ?_)
  exact thn (hr pos pins s1 σ H1 _ I1 q1) fun us s2 ⟨xs, H2, I2, r2, q2⟩ => ⟨x :: xs, H2, I2, .cons r1 r2, q2⟩

/-- a tuple, a list of written items -/
def tTup (t : TA) : TE := fun σ H Q => t σ H fun xs H1 => xs.length ≤ sizeLine ∧ ∀ p, H1 p = none → Q (.ref p) (upd H1 p (.tup xs))
def tLst (t : TA) : TE := fun σ H Q => t σ H fun xs H1 => xs.length ≤ sizeLine ∧ ∀ p, H1 p = none → Q (.ref p) (upd H1 p (.lst xs))
theorem pe_tup {x1} (h : PA X es t) : PE X (.Tuple es x1 pos) (tTup t) := by
  intro pins s σ H Q I hq
  refine wpAny_Tuple_spliced (thn (h pos pins s σ H _ I hq) fun us s1 ⟨xs, H1, I1, r, z, q⟩ => ⟨by rw [← r.length]; exact z, ?_⟩)
  have hf : H1 s1.heap.objs.size = none := I1.hok.fresh (Nat.le_refl _)
  refine ⟨.ref s1.heap.objs.size, upd H1 s1.heap.objs.size (.tup xs), I1.laid (t' := s1.toks) (fun b u e => Heap.get?_push_of_some _ e) (Nat.le_refl _) ?_, rfl, q _ hf⟩
  exact ⟨z, us, r, ⟨_, Heap.get?_push_size _ rfl, rfl, _, rfl⟩⟩
theorem pe_lst (h : PA X es t) : PE X (.List es pos) (tLst t) := by
  intro pins s σ H Q I hq
  refine wpAny_List_spliced (thn (h pos pins s σ H _ I hq) fun us s1 ⟨xs, H1, I1, r, z, q⟩ => ⟨by rw [← r.length]; exact z, ?_⟩)
  have hf : H1 s1.heap.objs.size = none := I1.hok.fresh (Nat.le_refl _)
  refine ⟨.ref s1.heap.objs.size, upd H1 s1.heap.objs.size (.lst xs), I1.laid (t' := s1.toks) (fun b u e => Heap.get?_push_of_some _ e) (Nat.le_refl _) ?_, rfl, q _ hf⟩
  exact ⟨z, us, 0, r, Heap.get?_push_size _ rfl⟩
end

/-! ### what a def promises -/
/-- a def's promise: the bound arguments in the parameters' order, the heap, the wanted end, the wanted exception -/
abbrev Sp := List V → Hp → VK → XK → Prop
/-- how an exception lies behind a call (file 08 gives it): the callers' frames, abstract heap and state ahead of the call, the wish, the exception, the state -/
abbrev CXT := List Env → Hp → Shared → XK → Value → Shared → Prop

/-- the state at a call -/
structure Env0 (P : Program) (w : World) (K : PySem.W.Frag) (mg : Str → Option Value) (base : Heap) (A : Around) (outer : List Env) (s : Shared) (H : Hp) : Prop where
  frames : A.frames = some outer
  mod : Mod K mg base
  bs : ∀ b o, base.get? b = some o → s.heap.get? b = some o ∧ H b = none
  bsz : base.objs.size ≤ s.heap.objs.size
  funs : s.heap.FunFrames base outer
  frf : ∀ b ∈ frs outer, H b = none
  hok : HOk P w H s.heap
  bare : AllBare s.gens
/-- a call's end -/
def CE (outer : List Env) (P : Program) (w : World) (H : Hp) (s : Shared) (Q : VK) (u : Value) (s' : Shared) : Prop :=
  ∃ v H', s'.os = s.os ∧ AllBare s'.gens ∧ Un (frs outer) [] H H' s.heap s'.heap ∧ HOk P w H' s'.heap ∧ RelV v u ∧ Q v H'
def CR (CX : CXT) (outer : List Env) (P : Program) (w : World) (H : Hp) (s : Shared) (Q : VK) (E : XK) (r : Result) (s' : Shared) : Prop :=
  match r with
  | .ok (.ret u) => CE outer P w H s Q u s'
  | .ok _ => False
  | .error e => CX outer H s E e s'
structure FnOk (P : Program) (w : World) (K : PySem.W.Frag) (mg : Str → Option Value) (base : Heap) (CX : CXT) (k : Nat) (f : Addr) (fd : FuncData) (ps : List Str) (sp : Sp) : Prop where
  len : ∀ vs H Q E, sp vs H Q E → vs.length = ps.length
  run : ∀ (A : Around) (outer : List Env) (s : Shared) (H : Hp) (args : Args) (us : List Value) (vs : List V) (Q : VK) (E : XK), Room k A → Env0 P w K mg base A outer s H → BindsTo s fd args (ps.zip us) → Vals vs us → sp vs H Q E →
    codeAny (model P w) A (.call (.ref f) args) (CR CX outer P w H s Q E) s

theorem Env0.make {P : Program} {w : World} {K : PySem.W.Frag} {mg : Str → Option Value} {base : Heap} {A : Around} {outer : List Env} {s : Shared} {H : Hp} (e : Env0 P w K mg base A outer s H) (C : Addr) (us : List Value) (kw : List (Str × Value)) :
    Env0 P w K mg base (A.under (.builtin "type.__call__" ⟨.ref C :: us, kw⟩)) outer s H := ⟨by first | exact e.frames | (simpa [Around.under, Code.envs, Code.isFrame, pushEnvs] using e.frames), e.mod, e.bs, e.bsz, e.funs, e.frf, e.hok, e.bare⟩
theorem Env0.in1 {P : Program} {w : World} {K : PySem.W.Frag} {mg : Str → Option Value} {base : Heap} {A : Around} {outer : List Env} {s : Shared} {H : Hp} (e : Env0 P w K mg base A outer s H) :
    Env0 P w K mg base A.in1 outer s H := ⟨e.frames, e.mod, e.bs, e.bsz, e.funs, e.frf, e.hok, e.bare⟩

section
variable {X : Cx} {pins : List (Addr × Obj)} {σ : St} {H : Hp} {s s' : Shared}
/-- from a body: what a callee wants -/
theorem Inv.env0 (I : Inv X pins σ H s) : Env0 X.prog X.w X.K X.mg X.base X.A X.stack s H :=
  ⟨I.ok.frames, I.ok.mod, I.bs, Nat.le_trans I.ok.bsz I.sz, I.stack, I.stkFree, I.hok, I.bare⟩
/-- behind a call -/
theorem Inv.after {Q : VK} {u : Value} (I : Inv X pins σ H s) (h : CE X.stack X.prog X.w H s Q u s') : EP X pins σ Q u s' := by
  obtain ⟨v, H', os, bare, un, hok, r, q⟩ := h
  obtain ⟨hh, g, d, t, os'⟩ := s'
  obtain rfl : os' = s.os := os
  exact ⟨v, H', I.call (h' := hh) (g' := g) (d' := d) (t' := t) (ch := []) un hok bare (fun b z => absurd z (by simp)), r, q⟩
end

/-! ### calls -/
/-- f(..): the written arguments, then the defaults dvs; E: what is wanted of an exception -/
def tCall (sp : Sp) (dvs : List V) (E : XK) (t : TA) : TE := fun σ H Q => t σ H fun vs H1 => sp (vs ++ dvs) H1 Q E
/-- o.m(..) of an instance of the class at C -/
def tMeth (C : Addr) (m : Str) (sp : Sp) (dvs : List V) (E : XK) (ta : TE) (t : TA) : TE := fun σ H Q => ta σ H fun x H1 => ∃ a dx fs, x = .ref a ∧ H1 a = some (.ins C dx fs) ∧ fs.lookup m = none ∧
  t σ H1 fun vs H2 => sp (x :: (vs ++ dvs)) H2 Q E
/-- C(..): a new instance and its dict, then __init__ -/
def tMake (C : Addr) (sp : Sp) (dvs : List V) (E : XK) (t : TA) : TE := fun σ H Q => t σ H fun vs H1 => ∀ x dx, H1 x = none → H1 dx = none → dx ≠ x →
  sp (.ref x :: (vs ++ dvs)) (upd (upd H1 dx (.own x)) x (.ins C dx [])) (fun v H2 => v = .non ∧ Q (.ref x) H2) E

/-- how the parameters are bound: us the positional arguments, kw the keywords' values by name, ds the defaults that fill up -/
def Binds (K : PySem.W.Frag) (fd : FuncData) (ps : List Str) (ds : List Value) : Prop :=
  ∀ (s : Shared) (us : List Value), K.In s.heap → (us ++ ds).length = ps.length → BindsTo s fd ⟨us, []⟩ (ps.zip (us ++ ds))
/-- every parameter is given -/
theorem Binds.all {K : PySem.W.Frag} {fd : FuncData} {ps : List Str} (h : ∀ us : List Value, us.length = ps.length → bindArgs fd ⟨us, []⟩ = pure (ps.zip us)) : Binds K fd ps [] := fun s us _ hl => by
  rw [List.append_nil] at hl ⊢
  exact .of_eq (h us hl)

/-- an exception of a callee reaches what this body wants of exceptions -/
def Passes (CX : CXT) (X : Cx) (E : XK) : Prop := ∀ (pins : List (Addr × Obj)) (σ : St) (H : Hp) (s : Shared) (e : Value) (s' : Shared), Inv X pins σ H s → CX X.stack H s E e s' → X.xe e s'

section
variable {X : Cx} {CX : CXT} {k : Nat} {f C : Addr} {fd : FuncData} {ps : List Str} {sp : Sp} {dvs : List V} {ds : List Value} {E : XK} {x m : Str} {p pos apos : Pos} {e o : Expr} {es : List Expr} {ta : TE} {t : TA}

/-- the callee runs -/
theorem run_fn {pins : List (Addr × Obj)} {σ : St} {H : Hp} {s : Shared} {Q : VK} {us : List Value} {vs : List V} (F : FnOk X.prog X.w X.K X.mg X.base CX k f fd ps sp) (hr : Room k X.A) (hb : Binds X.K fd ps ds) (hd : Vals dvs ds) (hx : Passes CX X E)
    (I : Inv X pins σ H s) (r : Vals vs us) (h : sp (vs ++ dvs) H Q E) : wpAny (model X.prog X.w) X.A (call (.ref f) us) (EP X pins σ Q) X.xe s := by
  have r2 : Vals (vs ++ dvs) (us ++ ds) := r.append hd
  have hl : (us ++ ds).length = ps.length := by rw [← r2.length]; exact F.len _ _ _ _ h
  refine wpAny_call (codeAny_mono (F.run X.A X.stack s H ⟨us, []⟩ (us ++ ds) (vs ++ dvs) Q E hr I.env0 (hb s us I.kIn hl) r2 h) fun r s' hq => ?_)
  cases r with
  | error e => exact hx pins σ H s e s' I hq
  | ok fl =>
    cases fl with
    | ret u => exact I.after hq
    | next => exact False.elim hq
    | brk => exact False.elim hq
    | cont => exact False.elim hq

theorem pe_call (F : FnOk X.prog X.w X.K X.mg X.base CX k f fd ps sp) (hr : Room k X.A) (hg : Gl X x) (hm : X.mg x = some (.ref f)) (hk : PySem.W.keepIn X.K (.ref f) = true) (hb : Binds X.K fd ps ds) (hd : Vals dvs ds) (hx : Passes CX X E)
    (ha : PA X (e :: es) t) (hdb : (x == ("__debug__" : Str)) = false := by decide) (he : starEach (e :: es) X.env = (false, eval e X.env) :: starEach es X.env := by rfl) (hpl : (backTo pos (starEach es X.env)).any (·.1) = false := by rfl) :
    PE X (.Call (.Name x p) (e :: es) [] pos) (tCall sp dvs E t) := by
  intro pins s σ H Q I h
  refine wpAny_Call_Name_kw (ld_glob I hg hm ?_ hdb)
  refine PySem.W.callWith_K (h₀ := X.base) I.ok.mod.kin hk (thn (ha pos pins s σ H _ I h) fun us s1 ⟨vs, H1, I1, r, q⟩ => ⟨I1.kIn, ?_⟩) he hpl
  exact run_fn F hr hb hd hx I1 r q

/-- o.m(e, ..) -/
theorem pe_meth {pl : Sem Bool} (he : PE X o ta) (c : Cls X.K C) (hm : Meth X.K C m f) (F : FnOk X.prog X.w X.K X.mg X.base CX k f fd ps sp) (hr : Room k X.A) (hb : Binds X.K fd ps ds) (hd : Vals dvs ds) (hx : Passes CX X E) (ha : PA X (e :: es) t)
    (hst : starEach (e :: es) X.env = (false, eval e X.env) :: starEach es X.env := by rfl) (hpl : (backTo pos (starEach es X.env)).any (·.1) = false := by rfl)
    (ht : eval (.Call (.Attribute o m apos) (e :: es) [] pos) X.env = (do
      let ov ← eval o X.env
      standAt apos.atName
      let (f, first) ← holding [ov] (getMethod ov m pl)
      callWith pos f first (backTo pos (starEach (e :: es) X.env)) (backToKw pos (keywordEach [] X.env))) := by rfl) :
    PE X (.Call (.Attribute o m apos) (e :: es) [] pos) (tMeth C m sp dvs E ta t) := by
  intro pins s σ H Q I h
  refine PySem.W.methodCall_KW (pl := pl) (thn (he pins s σ H _ I h) fun u s1 ⟨x, H1, I1, rx, a, dx, fs, ex, ea, l, q⟩ => ?_) ht
  subst ex
  obtain rfl : u = Value.ref a := rx
  refine getmeth_ok I1 ea c hm l ?_
  refine PySem.W.callWith_K (first := [.ref a]) (h₀ := X.base) I.ok.mod.kin hm.kp (thn (ha pos pins s1 σ H1 _ I1 q) fun us s2 ⟨vs, H2, I2, r, q2⟩ => ⟨I2.kIn, ?_⟩) hst hpl
  exact run_fn (us := .ref a :: us) (vs := .ref a :: vs) F hr hb hd hx I2 (.cons rfl r) q2
/-- o.m() -/
theorem pe_meth0 {pl : Sem Bool} (he : PE X o ta) (c : Cls X.K C) (hm : Meth X.K C m f) (F : FnOk X.prog X.w X.K X.mg X.base CX k f fd ps sp) (hr : Room k X.A) (hb : Binds X.K fd ps ds) (hd : Vals dvs ds) (hx : Passes CX X E)
    (ht : eval (.Call (.Attribute o m apos) [] [] pos) X.env = (do
      let ov ← eval o X.env
      standAt apos.atName
      let (f, first) ← holding [ov] (getMethod ov m pl)
      callWith pos f first (backTo pos (starEach [] X.env)) (backToKw pos (keywordEach [] X.env))) := by rfl) :
    PE X (.Call (.Attribute o m apos) [] [] pos) (tMeth C m sp dvs E ta tNil) := by
  intro pins s σ H Q I h
  refine PySem.W.methodCall_KW (pl := pl) (thn (he pins s σ H _ I h) fun u s1 ⟨x, H1, I1, rx, a, dx, fs, ex, ea, l, q⟩ => ?_) ht
  subst ex
  obtain rfl : u = Value.ref a := rx
  refine getmeth_ok I1 ea c hm l ?_
  exact PySem.W.callWith_K0 (first := [.ref a]) I1.kIn hm.kp (run_fn (us := [.ref a]) (vs := [.ref a]) F hr hb hd hx I1 (.cons rfl .nil) q)

/-- what a class must have to be made -/
structure Mk (K : PySem.W.Frag) (C f : Addr) : Prop where
  makes : PySem.W.makesIn K C = true
  init : PySem.W.findIn K (.ref C) "__init__" = some (some (.ref f))
  fn : PySem.W.isFn K (.ref f) = true
  kp : PySem.W.keepIn K (.ref C) = true

theorem run_make {pins : List (Addr × Obj)} {σ : St} {H : Hp} {s : Shared} {Q : VK} {us : List Value} {vs : List V} (M : Mk X.K C f) (F : FnOk X.prog X.w X.K X.mg X.base CX k f fd ps sp) (hr : Room (k + 1) X.A) (hb : Binds X.K fd ps ds) (hd : Vals dvs ds)
    (hx : Passes CX X E) (I : Inv X pins σ H s) (r : Vals vs us)
    (h : ∀ x dx, H x = none → H dx = none → dx ≠ x → sp (.ref x :: (vs ++ dvs)) (upd (upd H dx (.own x)) x (.ins C dx [])) (fun v H2 => v = .non ∧ Q (.ref x) H2) E) :
    wpAny (model X.prog X.w) X.A (call (.ref C) us) (EP X pins σ Q) X.xe s := by
  have hq := h (s.heap.objs.size + 1) s.heap.objs.size (I.hok.fresh (Nat.le_succ _)) (I.hok.fresh (Nat.le_refl _)) (Nat.ne_of_lt (Nat.lt_succ_self _))
  have I2 := Inv.made (C := C) I
  have r2 : Vals (V.ref (s.heap.objs.size + 1) :: (vs ++ dvs)) (Value.ref (s.heap.objs.size + 1) :: (us ++ ds)) := .cons rfl (r.append hd)
  have hl : (Value.ref (s.heap.objs.size + 1) :: us ++ ds).length = ps.length := by
    have e := r2.length
    rw [F.len _ _ _ _ hq] at e
    exact e.symm
  refine wpAny_call (make_map (f := f) I.kIn M.makes M.init (beq_iff_eq.mp M.fn) (codeAny_mono (F.run _ X.stack _ _ ⟨Value.ref (s.heap.objs.size + 1) :: us, []⟩ (Value.ref (s.heap.objs.size + 1) :: (us ++ ds)) _ _ E (hr.make C us [])
    (I2.env0.make C us []) (hb _ (Value.ref (s.heap.objs.size + 1) :: us) I2.kIn hl) r2 hq) fun r s' hq' => ?_))
  cases r with
  | error e => exact hx pins σ _ _ e s' I2 hq'
  | ok fl =>
    cases fl with
    | ret u =>
      obtain ⟨v, H', I3, rv, ev, q3⟩ := I2.after hq'
      subst ev
      exact ⟨rv, ⟨V.ref (s.heap.objs.size + 1), H', I3, rfl, q3⟩⟩
    | next => exact False.elim hq'
    | brk => exact False.elim hq'
    | cont => exact False.elim hq'
theorem pe_make (M : Mk X.K C f) (F : FnOk X.prog X.w X.K X.mg X.base CX k f fd ps sp) (hr : Room (k + 1) X.A) (hg : Gl X x) (hm : X.mg x = some (.ref C)) (hb : Binds X.K fd ps ds) (hd : Vals dvs ds) (hx : Passes CX X E)
    (ha : PA X (e :: es) t) (hdb : (x == ("__debug__" : Str)) = false := by decide) (he : starEach (e :: es) X.env = (false, eval e X.env) :: starEach es X.env := by rfl) (hpl : (backTo pos (starEach es X.env)).any (·.1) = false := by rfl) :
    PE X (.Call (.Name x p) (e :: es) [] pos) (tMake C sp dvs E t) := by
  intro pins s σ H Q I h
  refine wpAny_Call_Name_kw (ld_glob I hg hm ?_ hdb)
  refine PySem.W.callWith_K (h₀ := X.base) I.ok.mod.kin M.kp (thn (ha pos pins s σ H _ I h) fun us s1 ⟨vs, H1, I1, r, q⟩ => ⟨I1.kIn, ?_⟩) he hpl
  exact run_make M F hr hb hd hx I1 r q
theorem pe_make0 (M : Mk X.K C f) (F : FnOk X.prog X.w X.K X.mg X.base CX k f fd ps sp) (hr : Room (k + 1) X.A) (hg : Gl X x) (hm : X.mg x = some (.ref C)) (hb : Binds X.K fd ps ds) (hd : Vals dvs ds) (hx : Passes CX X E)
    (hdb : (x == ("__debug__" : Str)) = false := by decide) : PE X (.Call (.Name x p) [] [] pos) (tMake C sp dvs E tNil) := by
  intro pins s σ H Q I h
  refine wpAny_Call_Name_kw (ld_glob I hg hm ?_ hdb)
  exact PySem.W.callWith_K0 I.kIn M.kp (run_make (us := []) M F hr hb hd hx I .nil h)
end

/-! ### keywords -/
/-- the values of the keywords, from the left -/
def PK (X : Cx) (kws : List Keyword) (t : TA) : Prop :=
  ∀ (pos : Pos) (pins : List (Addr × Obj)) (s : Shared) (σ : St) (H : Hp) (Q : List V → Hp → Prop), Inv X pins σ H s → t σ H Q → wpAny (model X.prog X.w) X.A (evalAll ((backToKw pos (keywordEach kws X.env)).map (·.2))) (AP X pins σ Q) X.xe s
section
variable {X : Cx} {CX : CXT} {k : Nat} {f C : Addr} {fd : FuncData} {ps ks : List Str} {sp : Sp} {E : XK} {x m : Str} {p pos apos kpos : Pos} {e o : Expr} {es : List Expr} {kws : List Keyword} {te ta : TE} {t tk : TA} {nm : Option Str}
theorem pk_nil : PK X [] tNil := fun _ _ _ _ H Q I h => wpAny_evalAll_nil ⟨[], H, I, .nil, h⟩
theorem pk_cons (ha : PE X e te) (hr : PK X kws t) : PK X (⟨nm, e, kpos⟩ :: kws) (tCons te t) := by
  intro pos pins s σ H Q I h
  show wpAny _ _ (evalAll ((do let v ← eval e X.env; standAt pos; pure v) :: (backToKw pos (keywordEach kws X.env)).map (·.2))) _ _ s
  refine wpAny_evalAll_cons (wpAny_bind (thn (ha pins s σ H _ I h) fun u s1 ⟨x, H1, I1, r1, q1⟩ => wpAny_bind (wpAny_standAt (wpAny_pure ?_))))
  exact thn (hr pos pins s1 σ H1 _ I1 q1) fun us s2 ⟨xs, H2, I2, r2, q2⟩ => ⟨x :: xs, H2, I2, .cons r1 r2, q2⟩

variable {g : List Value → List Value → List Value} {gV : List V → List V → List V}
end

/-! ### a def's body keeps its promise -/
/-- names: the parameters first -/
structure FnScope (N P : List Str) (sc : Scope) : Prop where
  kind : sc.kind = .function
  co : sc.isCoroutine = false
  gen : sc.isGenerator = false
  nd : N.Nodup
  pre : N.take P.length = P
  par : ∀ x ∈ P, sc.names.lookup x = some .local ∨ sc.names.lookup x = some .cell
  nofree : ∀ y ∈ sc.names, y.2 ≠ .free

theorem bindL_out {kindOf : Str → Option NameKind} {x : Str} : ∀ {binds : List (Str × Value)} {m : Str → Option Value}, (∀ v, (x, v) ∉ binds) → bindL kindOf binds m x = m x
  | [], _, _ => rfl
  | (n, v) :: r, m, h => by
    unfold bindL
    rw [bindL_out fun w hw => h w (List.mem_cons_of_mem _ hw)]
    split
    · have : x ≠ n := by rintro rfl; exact h v List.mem_cons_self
      simp [this]
    · rfl
theorem bindC_out {kindOf : Str → Option NameKind} {x : Str} : ∀ {binds : List (Str × Value)} {m : Str → Option Value}, (∀ v, (x, v) ∉ binds) → bindC kindOf binds m x = m x
  | [], _, _ => rfl
  | (n, v) :: r, m, h => by
    unfold bindC
    rw [bindC_out fun w hw => h w (List.mem_cons_of_mem _ hw)]
    split
    · rfl
    · have : x ≠ n := by rintro rfl; exact h v List.mem_cons_self
      simp [this]
theorem bindL_get {kindOf : Str → Option NameKind} {x : Str} {v : Value} : ∀ {P : List Str} {vs : List Value} {i : Nat} {m : Str → Option Value}, P.Nodup → P[i]? = some x → vs[i]? = some v → kindOf x = some .local →
    bindL kindOf (P.zip vs) m x = some v
  | [], _, _, _, _, h, _, _ => by simp at h
  | _ :: _, [], _, _, _, _, h, _ => by simp at h
  | p :: P, w :: vs, 0, m, nd, h1, h2, hk => by
    simp at h1 h2; subst h1; subst h2
    show bindL kindOf ((p, w) :: P.zip vs) m p = _
    unfold bindL
    rw [bindL_out fun v hv => (List.nodup_cons.mp nd).1 (List.of_mem_zip hv).1, if_pos hk]
    simp
  | p :: P, w :: vs, i + 1, m, nd, h1, h2, hk => by
    show bindL kindOf ((p, w) :: P.zip vs) m x = _
    unfold bindL
    exact bindL_get (i := i) (List.nodup_cons.mp nd).2 (by simpa using h1) (by simpa using h2) hk
theorem bindC_get {kindOf : Str → Option NameKind} {x : Str} {v : Value} : ∀ {P : List Str} {vs : List Value} {i : Nat} {m : Str → Option Value}, P.Nodup → P[i]? = some x → vs[i]? = some v → kindOf x ≠ some .local →
    bindC kindOf (P.zip vs) m x = some v
  | [], _, _, _, _, h, _, _ => by simp at h
  | _ :: _, [], _, _, _, _, h, _ => by simp at h
  | p :: P, w :: vs, 0, m, nd, h1, h2, hk => by
    simp at h1 h2; subst h1; subst h2
    show bindC kindOf ((p, w) :: P.zip vs) m p = _
    unfold bindC
    rw [bindC_out fun v hv => (List.nodup_cons.mp nd).1 (List.of_mem_zip hv).1, if_neg hk]
    simp
  | p :: P, w :: vs, i + 1, m, nd, h1, h2, hk => by
    show bindC kindOf ((p, w) :: P.zip vs) m x = _
    unfold bindC
    exact bindC_get (i := i) (List.nodup_cons.mp nd).2 (by simpa using h1) (by simpa using h2) hk

/-- the names' values at the entry -/
def start (N : List Str) (vs : List V) : St := vs.map some ++ List.replicate (N.length - vs.length) none

/-- the context of a def's body, at its entry; an exception leaves the frame, then lies as CX says -/
def cxOf (CX : CXT) (P : Program) (w : World) (K : PySem.W.Frag) (mg : Str → Option Value) (base : Heap) (N : List Str) (qual : Str) (scope : Scope) (f : Addr) (cd : Value) (A : Around) (outer : List Env) (s : Shared) (H : Hp) (E : XK) : Cx where
  prog := P
  w := w
  K := K
  mg := mg
  base := base
  A := A.deeper (envOfC qual scope s.heap.objs.size f cd)
  N := N
  s_0 := s
  H_0 := H
  env := envOfC qual scope s.heap.objs.size f cd
  outer := outer
  stack := envOfC qual scope s.heap.objs.size f cd :: outer
  ex := []
  calm := true
  fn := fun _ => true
  pn := []
  xe := fun e s' => wpAny (model P w) (A.deeper (envOfC qual scope s.heap.objs.size f cd)) (leaving (envOfC qual scope s.heap.objs.size f cd) e) (fun _ s'' => CX outer H s E e s'') (fun e' s'' => CX outer H s E e' s'') s'

theorem cell_has {sc : Scope} {n : Nat} {x : Str} (h : sc.names.lookup x = some .cell) : ∃ c, (cellsFrom n sc.names []).lookup x = some c := by
  have q := PySem.W.cellsFrom_some sc.names n [] (.inl h)
  exact Option.isSome_iff_exists.mp q

theorem inv_start {CX : CXT} {P : Program} {w : World} {K : PySem.W.Frag} {mg : Str → Option Value} {base : Heap} {N ps : List Str} {qual : Str} {scope : Scope} {f : Addr} {cd : Value} {A : Around} {outer : List Env} {s s1 : Shared} {H : Hp} {E : XK} {us : List Value} {vs : List V}
    (S : FnScope N ps scope) (hd : A.handled = none) (e0 : Env0 P w K mg base A outer s H) (hl : vs.length = ps.length) (r : Vals vs us)
    (x : InCallC s s.heap.objs.size (bindL (envOfC qual scope s.heap.objs.size f cd).kindOf (ps.zip us) fun _ => none) (cellsFrom (s.heap.objs.size + 1) scope.names []) (bindC (envOfC qual scope s.heap.objs.size f cd).kindOf (ps.zip us) fun _ => none) s1) :
    Inv (cxOf CX P w K mg base N qual scope f cd A outer s H E) [] (start N vs) H s1 := by
  have hpl : ps.length ≤ N.length := by have := congrArg List.length S.pre; rw [List.length_take] at this; omega
  obtain ⟨h1, tk, rfl, hk⟩ := x.done
  have noA : ∀ b : Addr, b ∉ (cxOf CX P w K mg base N qual scope f cd A outer s H E).ex := fun b z => absurd (show b ∈ ([] : List Addr) from z) (by simp)
  refine ⟨⟨e0.mod, S.kind, rfl, rfl, Nat.le_refl _, fun y z c h1 h2 => ?_, fun y hy => ?_, fun y c _ h => ?_, fun _ => hd, Around.frames_deeper e0.frames, .inr ⟨rfl, rfl⟩, fun b z => absurd z (noA b), e0.bs, e0.bsz, fun b _ _ => noA b, fun b z => absurd z (noA b), e0.funs, e0.frf⟩,
    rfl, e0.bare, Un.kept hk, ⟨_, x.toInCall.ns, fun i y v h1 h2 h3 => ?_⟩, fun y c h => ⟨_, x.cell y c h⟩, e0.hok.fresh (Nat.le_refl _), fun y c h => ?_, fun p hp => absurd (show p ∈ ([] : List (Addr × Obj)) from hp) (by simp), e0.hok.kept hk, ?_⟩
  · exact name_of_addr x.apart (PySem.mem_of_lookup h1) (PySem.mem_of_lookup h2)
  · have hy : scope.names.lookup y = some .cell ∨ scope.names.lookup y = some .free := hy
    rcases hy with hy | hy
    · exact cell_has hy
    · exact absurd rfl (S.nofree _ (PySem.mem_of_lookup hy))
  · exact Nat.le_of_lt (x.above y c (PySem.mem_of_lookup h))
  · have hi : i < vs.length := by
      unfold start at h2
      by_cases hi : i < vs.length
      · exact hi
      · rw [List.getElem?_append_right (by simpa using hi)] at h2
        rw [List.getElem?_replicate] at h2
        split at h2 <;> cases h2
    have ha : vs[i]? = some v := by
      unfold start at h2
      rw [List.getElem?_append_left (by simpa using hi), List.getElem?_map] at h2
      cases e : vs[i]? with
      | none => rw [e] at h2; cases h2
      | some a => rw [e] at h2; cases h2; rfl
    obtain ⟨u, hu, rv⟩ := r.get ha
    have hp : ps[i]? = some y := by
      rw [← S.pre, List.getElem?_take_of_lt (by omega)]; exact h1
    have ndP : ps.Nodup := by rw [← S.pre]; exact S.nd.sublist (List.take_sublist _ _)
    refine ⟨u, rv, ?_⟩
    rcases S.par y (List.mem_of_getElem? hp) with k | k
    · exact .inl ⟨k, bindL_get ndP hp hu k⟩
    · obtain ⟨c, e⟩ := cell_has (n := s.heap.objs.size + 1) k
      refine .inr ⟨.inl k, c, e, ?_⟩
      have q := x.cell y c e
      rw [bindC_get ndP hp hu (by show scope.names.lookup y ≠ _; rw [k]; decide)] at q
      exact q
  · exact e0.hok.fresh (Nat.le_of_lt (x.above y c (PySem.mem_of_lookup h)))
  · unfold start
    show _ = N.length
    rw [List.length_append, List.length_map, List.length_replicate]
    omega

/-- THE RULE: a def (or a method) of the text, by its body. The body's reading t is chosen for each entry; it is run at the parameters' values -/
theorem fn_of {CX : CXT} {P : Program} {w : World} {K : PySem.W.Frag} {mg : Str → Option Value} {base : Heap} {k : Nat} {f : Addr} {name qual : Str} {params : Arguments} {body : List Stmt} {scope : Scope} {dV kV doc pm cdv ct oc : Value} {an od : Option Addr}
    {osl : Array (Option Value)} {N ps : List Str} {sp : Sp} (lk : K.lookup f = some ⟨oc, od, .func (PySem.W.fnOf name qual params body scope dV kV doc pm an cdv ct), osl⟩) (hcd : PySem.W.codeIn K cdv qual = true) (S : FnScope N ps scope)
    (len : ∀ vs H Q E, sp vs H Q E → vs.length = ps.length)
    (hbody : ∀ (A : Around) (outer : List Env) (s : Shared) (H : Hp) (vs : List V) (Q : VK) (E : XK), Room k (A.deeper (envOfC qual scope s.heap.objs.size f cdv)) → sp vs H Q E →
      ∃ t, PSs (cxOf CX P w K mg base N qual scope f cdv A outer s H E) body t ∧ t { nx := fun _ H' => Q .non H', rt := Q } (start N vs) H) :
    FnOk P w K mg base CX (k + 1) f (PySem.W.fnOf name qual params body scope dV kV doc pm an cdv ct) ps sp := by
  refine ⟨len, fun A outer s H args us vs Q E hr e0 hb r hsp => ?_⟩
  have hl := len _ _ _ _ hsp
  have KX : K.In s.heap := e0.mod.kin.keeps fun b o e => (e0.bs b o e).1
  have lim : s.heap.NoLimit := e0.mod.nolimit.keeps fun b o e => (e0.bs b o e).1
  have hkind : ∀ y ∈ ps.zip us, scope.names.lookup y.1 = some .local ∨ (scope.names.lookup y.1 = some .cell ∧ ((cellsFrom (s.heap.objs.size + 1) scope.names []).lookup y.1).isSome = true) := fun ⟨n, v⟩ hy => by
    rcases S.par n (List.of_mem_zip hy).1 with q | q
    · exact .inl q
    · exact .inr ⟨q, PySem.W.cellsFrom_some _ _ _ (.inl q)⟩
  refine codeAny_call_function hr.depth (KX _ _ lk) rfl S.co S.gen rfl (PySem.W.codeRec_of KX hcd) (hb _ _ _ _ ?_)
  refine wpAny_newFunctionEnv_cells S.kind hkind fun env he s1 x => ?_
  subst he
  refine ⟨lim.keeps x.toInCall.keep, codeAny_func ?_⟩
  obtain ⟨t, ht, hq⟩ := hbody A outer s H vs Q E (hr.deeper _) hsp
  have I : Inv (cxOf CX P w K mg base N qual scope f cdv A outer s H E) [] (start N vs) H s1 := inv_start S hr.hd e0 hl r x
  refine wpAny_mono (ht [] s1 (start N vs) H _ I hq) (fun fl s' hs => ?_) fun e s' hs => hs
  have fin : ∀ {σ' : St} {H' : Hp} {v : V} {u : Value}, Inv (cxOf CX P w K mg base N qual scope f cdv A outer s H E) [] σ' H' s' → RelV v u → Q v H' → CE outer P w H s Q u s' :=
    fun {σ' H' v u} J rv q => ⟨v, H', J.os, J.bare, J.base, J.hok, rv, q⟩
  cases fl with
  | ret u =>
    obtain ⟨v, σ', H', J, rv, q⟩ := hs
    exact fin J rv q
  | next =>
    obtain ⟨σ', H', J, q⟩ := hs
    exact fin (v := V.non) (u := Value.none) J rfl q
  | brk =>
    obtain ⟨_, _, _, q⟩ := hs
    exact False.elim q
  | cont =>
    obtain ⟨_, _, _, q⟩ := hs
    exact False.elim q
end L2

namespace L2
open PySem PySem.Spec PyProof.Rows
section
variable {X : Cx} {x : Str} {p pos : Pos} {e : Expr} {es : List Expr} {t : TA} {id T : String} {r : List V → Hp → VK → Prop}

def tCB (r : List V → Hp → VK → Prop) (t : TA) : TE := fun σ H Q => t σ H fun vs H1 => r vs H1 Q
/-- f(e, ..), f a built-in function -/
theorem pe_callB (hc : CallR X (.builtin id) r) (hg : Gl X x) (hm : X.mg x = none) (hv : bootBuiltins x = some (.builtin id)) (ha : PA X (e :: es) t) (hn : x ≠ "__name__" := by decide) (hdb : (x == ("__debug__" : Str)) = false := by decide)
    (he : starEach (e :: es) X.env = (false, eval e X.env) :: starEach es X.env := by rfl) (hpl : (backTo pos (starEach es X.env)).any (·.1) = false := by rfl) : PE X (.Call (.Name x p) (e :: es) [] pos) (tCB r t) := by
  intro pins s σ H Q I h
  refine wpAny_Call_Name_kw (ld_blt I hg hm hv ?_ hn hdb)
  exact PyProof.Rows.callWith_builtin1 (thn (ha pos pins s σ H _ I h) fun us s1 ⟨vs, H1, I1, r1, q1⟩ => hc pins s1 σ H1 vs us Q I1 r1 q1) he hpl
/-- T(e, ..), T a built-in type -/
theorem pe_callTy (hc : CallR X (.type T) r) (hg : Gl X x) (hm : X.mg x = none) (hv : bootBuiltins x = some (.type T)) (ha : PA X (e :: es) t) (hn : x ≠ "__name__" := by decide) (hdb : (x == ("__debug__" : Str)) = false := by decide)
    (he : starEach (e :: es) X.env = (false, eval e X.env) :: starEach es X.env := by rfl) (hpl : (backTo pos (starEach es X.env)).any (·.1) = false := by rfl) : PE X (.Call (.Name x p) (e :: es) [] pos) (tCB r t) := by
  intro pins s σ H Q I h
  refine wpAny_Call_Name_kw (ld_blt I hg hm hv ?_ hn hdb)
  exact PyProof.Rows.callWith_type1 (thn (ha pos pins s σ H _ I h) fun us s1 ⟨vs, H1, I1, r1, q1⟩ => hc pins s1 σ H1 vs us Q I1 r1 q1) he hpl
end
end L2

namespace HT
open PySem PyProof.Rows

theorem eqAt_int (A : Around) (s : Shared) (a : Int) (t : Tok) (c : Int) (u : Tok) : ∃ e, SeqAt.EqAt A s (.int a t) (.int c u) e ∧ (e = true ↔ a = c) :=
  ⟨(a == c), SeqAt.EqAt.int_int a t c u, by simp⟩

section
variable {prog : Program} {w : World} {A : Around} {E : Value → Shared → Prop} {s : Shared}

/-! ### t[a:b], not the whole -/
/-- a slice's bound as a place among n (d where it is left out) -/
def sIx (n d : Nat) : Option Int → Nat
  | none => d
  | some v => if v < 0 then (v + (n : Int)).toNat else min v.toNat n
theorem sIx_none (n d : Nat) : sIx n d none = d := rfl
theorem sIx_nat (n d k : Nat) : sIx n d (some (k : Int)) = min k n := by
  show (if (k : Int) < 0 then ((k : Int) + (n : Int)).toNat else min (k : Int).toNat n) = min k n
  rw [if_neg (by omega), Int.toNat_natCast]

end
end HT

namespace L2
open PySem PySem.Spec PyProof.Rows

/-! ### the parts of a slice -/
abbrev TO := St → Hp → (Option Int → Hp → Prop) → Prop
/-- a slice's part (left out, or an int) -/
def PO (X : Cx) (e : Option Expr) (t : TO) : Prop :=
  ∀ (pins : List (Addr × Obj)) (s : Shared) (σ : St) (H : Hp) (Q : Option Int → Hp → Prop), Inv X pins σ H s → t σ H Q →
    wpAny (model X.prog X.w) X.A (evalPart e X.env) (fun u s' => ∃ o H', Inv X pins σ H' s' ∧ IsPart u o ∧ Q o H') X.xe s
def tNoPart : TO := fun _ H Q => Q none H
def tPart (t : TE) : TO := fun σ H Q => t σ H fun x H1 => ∃ i, x = .int i ∧ Q (some i) H1

theorem intsAre_of {ns : List Int} : ∀ {us : List Value}, Vals (ns.map V.int) us → IntsAre us ns := by
  induction ns with
  | nil => intro us r; rw [List.map_nil] at r; cases r; exact .nil
  | cons n ns ih =>
    intro us r
    rw [List.map_cons] at r
    cases r with
    | cons r1 r2 =>
      obtain ⟨t, e⟩ := r1
      subst e
      exact .cons n t (ih r2)

section
variable {X : Cx} {e : Expr} {te : TE} {lo hi : Option Expr} {tl th : TO} {pos p2 : Pos}

theorem po_none : PO X none tNoPart := by
  intro pins s σ H Q I h
  rw [evalPart_none]
  exact wpAny_pure ⟨none, H, I, .none, h⟩
theorem po_some (h : PE X e te) : PO X (some e) (tPart te) := by
  intro pins s σ H Q I hw
  rw [evalPart_some]
  refine thn (h pins s σ H _ I hw) fun u s1 ⟨x, H1, I1, r1, q1⟩ => ?_
  obtain ⟨i, rfl, q⟩ := q1
  obtain ⟨t, rfl⟩ := r1
  exact ⟨some i, H1, I1, .int i t, q⟩

/-- what a slice of a value is, by values: the slice object stands at sl -/
def SlR (X : Cx) (r : V → Option Int → Option Int → Hp → VK → Prop) : Prop :=
  ∀ (pins : List (Addr × Obj)) (s : Shared) (σ : St) (H : Hp) (x : V) (v vl vu : Value) (lo hi : Option Int) (sl : Addr) (Q : VK), Inv X pins σ H s → RelV x v → s.heap.IsSliceOf sl vl vu .none → IsPart vl lo → IsPart vu hi → r x lo hi H Q →
    ∃ T id, typeLookup (.type T) "__getitem__" = pure (some (.builtin id)) ∧ s.TypeIs v T ∧ wpAny (model X.prog X.w) X.A (getItem v (.ref sl)) (EP X pins σ Q) X.xe s
def tSl (r : V → Option Int → Option Int → Hp → VK → Prop) (te : TE) (tl th : TO) : TE := fun σ H Q => te σ H fun x H1 => tl σ H1 fun l H2 => th σ H2 fun u H3 => r x l u H3 Q
/-- a[lo:hi], any a -/
theorem pe_slice {r : V → Option Int → Option Int → Hp → VK → Prop} (hr : SlR X r) (he : PE X e te) (hl : PO X lo tl) (hu : PO X hi th) : PE X (.Subscript e (.Slice lo hi none p2) pos) (tSl r te tl th) := by
  intro pins s σ H Q I h
  refine Subscript_ (thn (he pins s σ H _ I h) fun v s1 ⟨x, H1, I1, r1, q1⟩ => ?_)
  refine wpAny_Slice (thn (hl pins s1 σ H1 _ I1 q1) fun vl s2 ⟨l, H2, I2, pl, q2⟩ => thn (hu pins s2 σ H2 _ I2 q2) fun vu s3 ⟨u, H3, I3, pu, q3⟩ => ?_)
  rw [evalPart_none]
  refine wpAny_pure ?_
  have I4 : Inv X pins σ H3 { s3 with heap := s3.heap.push { cls := .type "slice", data := .fields #[vl, vu, .none] } } := I3.kept (t' := s3.toks) fun b ob q => Heap.get?_push_of_some _ q
  obtain ⟨T, id, hT, ht, hg⟩ := hr pins { s3 with heap := s3.heap.push { cls := .type "slice", data := .fields #[vl, vu, .none] } } σ H3 x v vl vu l u s3.heap.objs.size Q I4 r1 (Heap.IsSliceOf.new ..) pl pu q3
  show wpAny (model X.prog X.w) X.A (subscriptTail e (.Slice lo hi none p2) v (.ref s3.heap.objs.size)) (EP X pins σ Q) X.xe { s3 with heap := s3.heap.push { cls := .type "slice", data := .fields #[vl, vu, .none] } }
  exact tail_any (ops := [.ref s3.heap.objs.size, v]) ht hT hg (by with_unfolding_all rfl)

/-- the items of xs[lo:hi] -/
def cutV (xs : List V) (lo hi : Option Int) : List V := (xs.drop (HT.sIx xs.length 0 lo)).take (HT.sIx xs.length xs.length hi - HT.sIx xs.length 0 lo)
theorem cutV_length (xs : List V) (lo hi : Option Int) : (cutV xs lo hi).length ≤ xs.length := by
  unfold cutV
  rw [List.length_take, List.length_drop]
  omega

end
end L2

namespace L2
open PySem PySem.Spec PyProof.Rows

/-! ### places -/
/-- the place that an index of any sign means -/
def ixN (n : Nat) (i : Int) : Option Nat := if 0 ≤ i then (if i < n then some i.toNat else none) else if -(n : Int) ≤ i then some (i + n).toNat else none
def atI {α : Type} (xs : List α) (i : Int) : Option α := (ixN xs.length i).bind fun j => xs[j]?
theorem ixN_seq {n : Nat} {i : Int} {j : Nat} (h : ixN n i = some j) : seqIndex? i n = some j ∧ j < n ∧ -(n : Int) ≤ i ∧ i < n := by
  unfold ixN at h
  by_cases h0 : 0 ≤ i
  · rw [if_pos h0] at h
    by_cases h1 : i < n
    · rw [if_pos h1] at h
      have e : i.toNat = j := Option.some.inj h
      exact ⟨by rw [seqIndex_of h0 h1, e], by omega, by omega, h1⟩
    · rw [if_neg h1] at h; cases h
  · rw [if_neg h0] at h
    by_cases h1 : -(n : Int) ≤ i
    · rw [if_pos h1] at h
      have e : (i + n).toNat = j := Option.some.inj h
      exact ⟨by rw [seqIndex_neg (by omega) h1, e], by omega, h1, by omega⟩
    · rw [if_neg h1] at h; cases h
theorem atI_get {α : Type} {xs : List α} {i : Int} {v : α} (h : atI xs i = some v) : ∃ j, seqIndex? i xs.length = some j ∧ xs[j]? = some v ∧ j < xs.length ∧ -(xs.length : Int) ≤ i ∧ i < xs.length := by
  unfold atI at h
  cases e : ixN xs.length i with
  | none => rw [e] at h; cases h
  | some j =>
    rw [e] at h
    obtain ⟨h1, h2, h3, h4⟩ := ixN_seq e
    exact ⟨j, h1, h, h2, h3, h4⟩
theorem atI_nat {α : Type} {xs : List α} {j : Nat} {v : α} (h : xs[j]? = some v) : atI xs (j : Int) = some v := by
  have hj : j < xs.length := (List.getElem?_eq_some_iff.mp h).1
  have e : ixN xs.length (j : Int) = some j := by
    unfold ixN
    rw [if_pos (by omega), if_pos (by omega)]; simp
  unfold atI; rw [e]; exact h
theorem atI_last {α : Type} (xs : List α) (v : α) : atI (xs ++ [v]) (-1) = some v := by
  have hl : (xs ++ [v]).length = xs.length + 1 := by simp
  have e : ixN (xs ++ [v]).length (-1) = some xs.length := by
    unfold ixN
    rw [hl, if_neg (by decide), if_pos (by omega)]
    congr 1
    omega
  unfold atI
  rw [e]
  show (xs ++ [v])[xs.length]? = some v
  simp

/-! ### what may be subscripted -/
/-- what stands as an index of a plain subscript -/
def PlainIx (b : Expr) : Prop := ∀ o i, subscripted b false o i = operate [o, i] (getItem o i)
/-- a subscript by values -/
def IxR (X : Cx) (r : R2) : Prop :=
  ∀ (value slice : Expr) (pins : List (Addr × Obj)) (s : Shared) (σ : St) (H : Hp) (x y : V) (v u : Value) (Q : VK), Inv X pins σ H s → RelV x v → RelV y u → r x y H Q →
    subscripted slice false v u = operate [v, u] (getItem v u) → wpAny (model X.prog X.w) X.A (subscriptTail value slice v u) (EP X pins σ Q) X.xe s
/-- a call of a builtin's method by values: the receiver, the arguments -/
def MtR (X : Cx) (id : String) (r : V → List V → Hp → VK → Prop) : Prop :=
  ∀ (pins : List (Addr × Obj)) (s : Shared) (σ : St) (H : Hp) (x : V) (xs : List V) (v : Value) (us : List Value) (Q : VK), Inv X pins σ H s → RelV x v → Vals xs us → r x xs H Q →
    wpAny (model X.prog X.w) X.A (call (.builtin id) (v :: us)) (EP X pins σ Q) X.xe s
section
variable {X : Cx} {a b : Expr} {ta tb : TE} {pos : Pos}
/-- a[b] -/
theorem pe_ix {r : R2} (hr : IxR X r) (ha : PE X a ta) (hb : PE X b tb) (hs : PlainIx b) : PE X (.Subscript a b pos) (tOp r ta tb) := by
  intro pins s σ H Q I h
  exact Subscript_ (binT ha hb I h fun v u s2 x y H2 I2 rx ry q => hr a b pins s2 σ H2 x y v u Q I2 rx ry q (hs _ _))

def rIxL (K : PySem.W.Frag) : R2 := fun x y H Q => ∃ p xs i v, x = .ref p ∧ y = .int i ∧ SqL K H p xs ∧ atI xs i = some v ∧ Q v H
def rIxT (K : PySem.W.Frag) : R2 := fun x y H Q => ∃ p xs i v, x = .ref p ∧ y = .int i ∧ SqT K H p xs ∧ atI xs i = some v ∧ Q v H
theorem ix_list : IxR X (rIxL X.K) := by
  intro value slice pins s σ H x y v u Q I rx ry h hs
  obtain ⟨p, xs, i, z, rfl, rfl, hq, he, q⟩ := h
  cases rx
  obtain ⟨t, rfl⟩ := ry
  obtain ⟨its, r, pl, hz⟩ := I.list hq
  obtain ⟨j, h1, h2, h3, h4, h5⟩ := atI_get he
  obtain ⟨w, ew, rw'⟩ := r.get h2
  have hl := r.length
  have hn := line63
  have fin : EP X pins σ Q w s := ⟨z, H, I, rw', q⟩
  by_cases h0 : 0 ≤ i
  · have hj : i.toNat = j := by
      rw [seqIndex_of h0 h5] at h1
      exact Option.some.inj h1
    exact item_listR pl.isList h0 (by omega) (by rw [hj]; simpa using ew) fin hs
  · have hj : (i + (its.toArray.size : Int)).toNat = j := by
      rw [seqIndex_neg (by omega) h4] at h1
      rw [List.size_toArray, ← hl]
      exact Option.some.inj h1
    exact subscriptTail_builtinR (x := w) pl.isList.typeIs slot_list_getitem.lookup
      (wpAny_getItem_list_neg (Q := fun r s' => r = w ∧ EP X pins σ Q r s') pl.isList (by omega) (by rw [List.size_toArray] <;> omega) (by omega) (by rw [hj]; simpa using ew) ⟨rfl, fin⟩) hs
theorem ix_tup : IxR X (rIxT X.K) := by
  intro value slice pins s σ H x y v u Q I rx ry h hs
  obtain ⟨p, xs, i, z, rfl, rfl, hq, he, q⟩ := h
  cases rx
  obtain ⟨t, rfl⟩ := ry
  obtain ⟨its, r, pl, hz⟩ := I.tuple hq
  obtain ⟨j, h1, h2, h3, h4, h5⟩ := atI_get he
  obtain ⟨w, ew, rw'⟩ := r.get h2
  have hl := r.length
  have hn := line63
  have fin : EP X pins σ Q w s := ⟨z, H, I, rw', q⟩
  exact subscriptTail_builtinR (x := w) pl.typeIs slot_tuple_getitem.lookup
    (getItem_tuple (j := j) (Q := fun r s' => r = w ∧ EP X pins σ Q r s') pl (by omega) (by omega) (by rw [List.size_toArray, ← hl]; exact h1) (by simpa using ew) ⟨rfl, fin⟩) hs

/-! ### xs[i] = v, any sign -/
/-- the list's object behind a store -/
theorem mapSeq_set (its : List Value) (n j : Nat) (u : Value) : Obj.mapSeq (·.setIfInBounds j u) { cls := .type "list", data := .seq its.toArray n } = { cls := .type "list", data := .seq (its.set j u).toArray n } := by
  simp [Obj.mapSeq]
theorem Inv.lst {pins : List (Addr × Obj)} {σ : St} {H : Hp} {s : Shared} {p : Addr} {xs : List V} (I : Inv X pins σ H s) (h : H p = some (.lst xs)) :
    ∃ (its : List Value) (n : Nat), Vals xs its ∧ s.heap.get? p = some { cls := .type "list", data := .seq its.toArray n } ∧ xs.length ≤ sizeLine := by
  obtain ⟨z, its, n, r, e⟩ := I.hok p _ h
  exact ⟨its, n, r, e, z⟩
/-- the list at p is written by an update of its object -/
theorem Inv.lstUpd {pins : List (Addr × Obj)} {σ : St} {H : Hp} {s : Shared} {p : Addr} {xs ys : List V} {its its' : List Value} {n n' : Nat} {f : Obj → Obj} (I : Inv X pins σ H s) (h : H p = some (.lst xs))
    (ho : s.heap.get? p = some { cls := .type "list", data := .seq its.toArray n }) (hf : f { cls := .type "list", data := .seq its.toArray n } = { cls := .type "list", data := .seq its'.toArray n' }) (r : Vals ys its') (hz : ys.length ≤ sizeLine) (t : Nat) :
    Inv X pins σ (upd H p (.lst ys)) { s with heap := s.heap.update p f, toks := t } := by
  have e : (s.heap.update p f).get? p = some { cls := .type "list", data := .seq its'.toArray n' } := by
    rw [Heap.get?_update_self f ho (by rw [hf] <;> rfl), hf]
  refine I.write (x := p) (e := p) (by rw [h]; trivial) (.inl rfl) (fun b u hb q => (Heap.get?_update_other _ _ (Ne.symm hb)).trans q) ⟨_, e⟩ ?_
  exact ⟨hz, its', n', r, e⟩
def rSetL : V → V → V → Hp → (Hp → Prop) → Prop := fun o i v H Q => ∃ p xs k j, o = .ref p ∧ i = .int k ∧ H p = some (.lst xs) ∧ ixN xs.length k = some j ∧ Q (upd H p (.lst (xs.set j v)))
theorem set_list : PSet X rSetL := by
  intro pins s σ H o i v ov iv u Q I ro ri rv h
  obtain ⟨p, xs, k, j, rfl, rfl, hp, hj, q⟩ := h
  cases ro
  obtain ⟨t, rfl⟩ := ri
  obtain ⟨its, n, r, ho, hz⟩ := I.lst hp
  obtain ⟨h1, h2, h3, h4⟩ := ixN_seq hj
  have hl := r.length
  have hn := line63
  have I' : Inv X pins σ (upd H p (.lst (xs.set j v))) { s with heap := s.heap.update p (Obj.mapSeq (·.setIfInBounds j u)) } :=
    I.lstUpd hp ho (mapSeq_set its n j u) (r.set rv j) (by rw [List.length_set]; exact hz) s.toks
  by_cases h0 : 0 ≤ k
  · have hk : k.toNat = j := by
      rw [seqIndex_of h0 h4] at h1
      exact Option.some.inj h1
    exact PySem.W.ki_setAt ho h0 (by omega) (by rw [List.size_toArray, ← hl]; exact h4) (by rw [hk]; exact ⟨_, I', q⟩)
  · have hk : (k + (its.toArray.size : Int)).toNat = j := by
      rw [seqIndex_neg (by omega) h3] at h1
      rw [List.size_toArray, ← hl]
      exact Option.some.inj h1
    exact PySem.W.ki_setBack ho (by omega) (by rw [List.size_toArray, ← hl]; exact h3) (by omega) (by rw [hk]; exact ⟨_, I', q⟩)

/-! ### slices -/
theorem slice_bounds (lo hi : Option Int) (n : Nat) : (sliceBounds lo hi none n).1 = ((HT.sIx n 0 lo : Nat) : Int) ∧ (sliceBounds lo hi none n).2.1 = ((HT.sIx n n hi : Nat) : Int) ∧ (sliceBounds lo hi none n).2.2 = 1 := by
  refine ⟨?_, ?_, rfl⟩
  · cases lo with
    | none => simp [sliceBounds, HT.sIx]
    | some i =>
      simp only [sliceBounds, HT.sIx, Option.getD_none, show (1 : Int) > 0 by decide, if_true]
      by_cases h : i < 0
      · simp only [h, if_true] <;> omega
      · simp only [h, if_false] <;> omega
  · cases hi with
    | none => simp [sliceBounds, HT.sIx]
    | some i =>
      simp only [sliceBounds, HT.sIx, Option.getD_none, show (1 : Int) > 0 by decide, if_true]
      by_cases h : i < 0
      · simp only [h, if_true] <;> omega
      · simp only [h, if_false] <;> omega
theorem slicePick_cut (its : List Value) (lo hi : Option Int) : slicePick its.toArray lo hi none = ((its.drop (HT.sIx its.length 0 lo)).take (HT.sIx its.length its.length hi - HT.sIx its.length 0 lo)).toArray := by
  obtain ⟨h1, h2, h3⟩ := slice_bounds lo hi its.toArray.size
  unfold slicePick
  rw [h1, h2, h3]
  simp only [sliceRange_one, pick_run, List.size_toArray] <;> rfl
/-- xs[lo:hi] of a list: a new list -/
def rSlL (K : PySem.W.Frag) : V → Option Int → Option Int → Hp → VK → Prop := fun x lo hi H Q => ∃ a xs, x = .ref a ∧ SqL K H a xs ∧ ∀ p, H p = none → Q (.ref p) (upd H p (.lst (cutV xs lo hi)))
theorem sl_list : SlR X (rSlL X.K) := by
  intro pins s σ H x v vl vu lo hi sl Q I rx hs pl pu h
  obtain ⟨a, xs, rfl, hx, q⟩ := h
  cases rx
  obtain ⟨its, r, ht, hz⟩ := I.list hx
  have hlen := r.length
  refine ⟨"list", _, slot_list_getitem.lookup, ht.isList.typeIs, ?_⟩
  refine wpAny_getItem_list_slice ht.isList hs pl pu .none (by simp) ?_ (by rw [List.size_toArray] <;> omega)
  rw [slicePick_cut, ← hlen]
  refine ⟨.ref s.heap.objs.size, _, I.laid (t' := s.toks) (o := .lst (cutV xs lo hi)) (fun b ob q => Heap.get?_push_of_some _ q) (Nat.le_refl _) ?_, rfl, q _ (I.hok.fresh (Nat.le_refl _))⟩
  exact ⟨Nat.le_trans (cutV_length xs lo hi) hz, _, 0, (r.drop (HT.sIx xs.length 0 lo)).take (HT.sIx xs.length xs.length hi - HT.sIx xs.length 0 lo), Heap.get?_push_size _ rfl⟩

/-! ### in, not in: flat items -/
def flatV : V → Bool
  | .non => true
  | .bl _ => true
  | .int _ => true
  | .str _ => true
  | _ => false
/-- == of flat values -/
def eqV : V → V → Bool
  | .non, .non => true
  | .bl a, .bl b => a == b
  | .bl a, .int b => (if a then 1 else 0) == b
  | .int a, .bl b => a == (if b then 1 else 0)
  | .int a, .int b => a == b
  | .str a, .str b => a == b
  | _, _ => false
theorem eqAt_V {A : Around} {s : Shared} {y x : V} {u v : Value} (ry : RelV y u) (rx : RelV x v) (fy : flatV y = true) (fx : flatV x = true) : SeqAt.EqAt A s u v (eqV y x) := by
  cases y with
  | non =>
    cases ry
    cases x with
    | non => cases rx; exact SeqAt.EqAt.same _
    | bl b => cases rx; exact SeqAt.EqAt.none_bool b
    | int b => obtain ⟨t, rfl⟩ := rx; exact SeqAt.EqAt.none_int b t
    | str b => obtain ⟨t, rfl⟩ := rx; exact SeqAt.EqAt.none_str b t
    | _ => exact absurd (show false = true from fx) Bool.false_ne_true
  | bl a =>
    cases ry
    cases x with
    | non => cases rx; exact SeqAt.EqAt.bool_none a
    | bl b => cases rx; exact SeqAt.EqAt.bool_bool a b
    | int b => obtain ⟨t, rfl⟩ := rx; exact SeqAt.EqAt.bool_int a b t
    | str b => obtain ⟨t, rfl⟩ := rx; exact SeqAt.EqAt.bool_str a b t
    | _ => exact absurd (show false = true from fx) Bool.false_ne_true
  | int a =>
    obtain ⟨t', rfl⟩ := ry
    cases x with
    | non => cases rx; exact SeqAt.EqAt.int_none a t'
    | bl b => cases rx; exact SeqAt.EqAt.int_bool a t' b
    | int b => obtain ⟨t, rfl⟩ := rx; exact SeqAt.EqAt.int_int a t' b t
    | str b => obtain ⟨t, rfl⟩ := rx; exact SeqAt.EqAt.int_str a t' b t
    | _ => exact absurd (show false = true from fx) Bool.false_ne_true
  | str a =>
    obtain ⟨t', rfl⟩ := ry
    cases x with
    | non => cases rx; exact SeqAt.EqAt.str_none a t'
    | bl b => cases rx; exact SeqAt.EqAt.str_bool a t' b
    | int b => obtain ⟨t, rfl⟩ := rx; exact SeqAt.EqAt.str_int a t' b t
    | str b => obtain ⟨t, rfl⟩ := rx; exact SeqAt.EqAt.str_str a t' b t
    | _ => exact absurd (show false = true from fx) Bool.false_ne_true
  | _ => exact absurd (show false = true from fy) Bool.false_ne_true
/-- the items' answers, read off the values (a value's own answer does not lean on its token) -/
def eqU (x : V) (u : Value) : Bool := match u with
  | .none => eqV .non x
  | .bool b => eqV (.bl b) x
  | .int i _ => eqV (.int i) x
  | .str z _ => eqV (.str z) x
  | _ => false
theorem eqU_of {x y : V} {u : Value} (r : RelV y u) (f : flatV y = true) : eqU x u = eqV y x := by
  cases y with
  | non => cases r; rfl
  | bl b => cases r; rfl
  | int i => obtain ⟨t, rfl⟩ := r; rfl
  | str z => obtain ⟨t, rfl⟩ := r; rfl
  | _ => exact absurd (show false = true from f) Bool.false_ne_true
theorem any_eqU {x : V} : ∀ {xs : List V} {us : List Value}, Vals xs us → xs.all flatV = true → us.any (eqU x) = xs.any fun y => eqV y x
  | _, _, .nil, _ => rfl
  | y :: xs, u :: us, .cons r t, f => by
    rw [List.all_cons, Bool.and_eq_true] at f
    rw [List.any_cons, List.any_cons, eqU_of r f.1, any_eqU t f.2]
theorem mem_eqAt {A : Around} {s : Shared} {x : V} {v : Value} (rx : RelV x v) (fx : flatV x = true) : ∀ {xs : List V} {us : List Value}, Vals xs us → xs.all flatV = true → ∀ u ∈ us, SeqAt.EqAt A s u v (eqU x u)
  | _, _, .nil, _ => fun u hu => by cases hu
  | y :: xs, u :: us, .cons r t, f => fun u' hu => by
    rw [List.all_cons, Bool.and_eq_true] at f
    rcases List.mem_cons.mp hu with rfl | hu
    · rw [eqU_of r f.1]; exact eqAt_V r rx f.1 fx
    · exact mem_eqAt rx fx t f.2 u' hu
def inV (x : V) (xs : List V) : Bool := xs.any fun y => eqV y x
/-- x in a list or tuple of flat items -/
def rIn (K : PySem.W.Frag) (neg : Bool) : R2 := fun x y H Q => ∃ p xs, y = .ref p ∧ (SqL K H p xs ∨ SqT K H p xs) ∧ flatV x = true ∧ xs.all flatV = true ∧ Q (.bl (if neg then !inV x xs else inV x xs)) H
theorem op_in_seq : OpR X (compareOp .In) (rIn X.K false) := by
  intro pins s σ H x y v u Q I rx ry h
  obtain ⟨p, xs, rfl, hq, fx, fs, q⟩ := h
  cases ry
  rcases hq with hq | hq
  · obtain ⟨its, r, pl, hz⟩ := I.list hq
    refine SeqAt.in_listAt (eqU x) pl.isList (fun w hw => mem_eqAt rx fx r fs w (by simpa using hw)) ⟨.bl _, H, I, rfl, ?_⟩
    rw [show its.toArray.any (eqU x) = its.any (eqU x) by simp, any_eqU r fs]
    exact q
  · obtain ⟨its, r, pl, hz⟩ := I.tuple hq
    refine SeqAt.in_tupleAt (eqU x) pl (fun w hw => mem_eqAt rx fx r fs w (by simpa using hw)) ⟨.bl _, H, I, rfl, ?_⟩
    rw [show its.toArray.any (eqU x) = its.any (eqU x) by simp, any_eqU r fs]
    exact q

/-! ### len, list(x), tuple(x) of any list or tuple that is read -/
theorem call_len_seq : CallR X (.builtin "len") (fun xs H Q => ∃ p ys, xs = [.ref p] ∧ (SqL X.K H p ys ∨ SqT X.K H p ys) ∧ Q (.int ys.length) H) := by
  intro pins s σ H xs us Q I r h
  obtain ⟨p, ys, rfl, hq, q⟩ := h
  obtain ⟨u, rfl, rx⟩ := vals1 r
  cases rx
  have hn := line63
  rcases hq with hq | hq
  · obtain ⟨its, r', pl, hz⟩ := I.list hq
    have hlen := r'.length
    exact Calls.call_len_list pl.isList (by simp only [List.size_toArray] <;> omega) ⟨.int ys.length, H, I.tok _, ⟨s.toks + 1, by rw [List.size_toArray, hlen]⟩, q⟩
  · obtain ⟨its, r', pl, hz⟩ := I.tuple hq
    have hlen := r'.length
    exact len_tuple pl (by simp only [List.size_toArray] <;> omega) ⟨.int ys.length, H, I.tok _, ⟨s.toks + 1, by rw [List.size_toArray, hlen]⟩, q⟩
theorem call_list_of : CallR X (.type "list") (fun xs H Q => ∃ p ys, xs = [.ref p] ∧ (SqL X.K H p ys ∨ SqT X.K H p ys) ∧ ∀ l, H l = none → Q (.ref l) (upd H l (.lst ys))) := by
  intro pins s σ H xs us Q I r h
  obtain ⟨p, ys, rfl, hq, q⟩ := h
  obtain ⟨u, rfl, rx⟩ := vals1 r
  cases rx
  have fin : ∀ (its : List Value), Vals ys its → ys.length ≤ sizeLine → ∀ (h' : Heap) (c' : Nat), (∀ b o', s.heap.get? b = some o' → h'.get? b = some o') →
      h'.get? s.heap.objs.size = some { cls := .type "list", dict := none, data := .seq its.toArray c', slots := #[] } → EP X pins σ Q (.ref s.heap.objs.size) { s with heap := h' } := fun its r' hz h' c' kp e =>
    ⟨.ref s.heap.objs.size, _, I.laid (t' := s.toks) kp (Nat.le_refl _) (show ObjOk X.prog X.w _ h' _ (.lst ys) from ⟨hz, its, c', r', e⟩), rfl, q _ (I.hok.fresh (Nat.le_refl _))⟩
  rcases hq with hq | hq
  · obtain ⟨its, r', pl, hz⟩ := I.list hq
    have hlen := r'.length
    obtain ⟨o, ho, hc, n, hd⟩ := pl.isList
    exact call_list_seq p (.inl rfl) ho hc hd (fun h' c' kp e => fin its r' hz h' c' kp e) (by simp only [List.size_toArray] <;> omega)
  · obtain ⟨its, r', pl, hz⟩ := I.tuple hq
    have hlen := r'.length
    obtain ⟨o, ho, hc, n, hd⟩ := pl
    exact call_list_seq p (.inr rfl) ho hc hd (fun h' c' kp e => fin its r' hz h' c' kp e) (by simp only [List.size_toArray] <;> omega)

/-! ### the call of a builtin's method: o.m(..) -/
/-- the value is of that builtin type -/
def tyV (K : PySem.W.Frag) (T : String) (x : V) (H : Hp) : Prop := match x with
  | .str _ => T = "str"
  | .int _ => T = "int"
  | .ref p => (T = "list" ∧ ∃ xs, SqL K H p xs) ∨ (T = "tuple" ∧ ∃ o, K.lookup p = some o ∧ o.cls = .type "tuple" ∧ o.dict = none) ∨
      (T = "dict" ∧ ((∃ kvs, H p = some (.dK kvs)) ∨ ∃ kvs, H p = some (.dT kvs))) ∨ (T = "set" ∧ ∃ S n, H p = some (.set S n))
  | _ => False
theorem tyV_is {pins : List (Addr × Obj)} {σ : St} {H : Hp} {s : Shared} {T : String} {x : V} {v : Value} (I : Inv X pins σ H s) (r : RelV x v) (ty : tyV X.K T x H) :
    s.TypeIs v T ∧ ∀ a, v = .ref a → ∃ ob, s.heap.get? a = some ob ∧ ob.dict = none := by
  cases x with
  | str z =>
    obtain ⟨t, rfl⟩ := r
    cases (show T = "str" from ty)
    exact ⟨typeIs_str s z t, fun _ e => nomatch e⟩
  | int i =>
    obtain ⟨t, rfl⟩ := r
    cases (show T = "int" from ty)
    exact ⟨typeIs_int s i t, fun _ e => nomatch e⟩
  | ref p =>
    cases r
    rcases ty with ⟨rfl, xs, hq⟩ | ⟨rfl, o, hk, hc, hd⟩ | ⟨rfl, hk⟩ | ⟨rfl, S, n, hk⟩
    · obtain ⟨its, _, pl, _⟩ := I.list hq
      refine ⟨pl.isList.typeIs, fun a e => ?_⟩
      cases e
      obtain ⟨o, n, e, c, hd, _⟩ := pl
      exact ⟨o, e, hd⟩
    · refine ⟨⟨o, I.kIn p o hk, hc⟩, fun a e => ?_⟩
      cases e
      exact ⟨o, I.kIn _ o hk, hd⟩
    · have z : ∃ o, s.heap.get? p = some o ∧ o.ExactDict := by
        rcases hk with ⟨kvs, hk⟩ | ⟨kvs, hk⟩
        · obtain ⟨_, _, _, _, o, _, _, e, ex, _⟩ := I.hok p _ hk
          exact ⟨o, e, ex⟩
        · obtain ⟨_, _, _, _, o, _, _, e, ex, _⟩ := I.hok p _ hk
          exact ⟨o, e, ex⟩
      obtain ⟨o, e, ex⟩ := z
      refine ⟨⟨o, e, ex.1⟩, fun a e2 => ?_⟩
      cases e2
      exact ⟨o, e, ex.2.1⟩
    · obtain ⟨o, _, _, _, e, ex, _⟩ := I.hok p _ hk
      refine ⟨⟨o, e, ex.1⟩, fun a e2 => ?_⟩
      cases e2
      exact ⟨o, e, ex.2.1⟩
  | _ => exact False.elim ty
def tBM (K : PySem.W.Frag) (T : String) (r : V → List V → Hp → VK → Prop) (to : TE) (t : TA) : TE := fun σ H Q => to σ H fun x H1 => tyV K T x H1 ∧ t σ H1 fun xs H2 => r x xs H2 Q
variable {o e : Expr} {es : List Expr} {to : TE} {t : TA} {name : Str} {apos cpos : Pos} {T id : String} {r : V → List V → Hp → VK → Prop}
theorem pe_bm (pa : PlainAttrs T) (slot : Slot T name id) (hty : typeOf (.builtin id) = pure (.type "method_descriptor")) (hm : MtR X id r) (ho : PE X o to) (ha : PA X (e :: es) t)
    (hbase : attributeBase o name X.env (eval o X.env) = eval o X.env := by rfl)
    (hfew : ((backTo cpos (starEach (e :: es) X.env)).all (fun x => !x.1) && (backToKw cpos (keywordEach [] X.env)).all (fun x => x.1.isSome)
      && decide ((e :: es).length + ([] : List Keyword).length + (if ([] : List Keyword).isEmpty then 0 else 1) < 30)) = true := by rfl)
    (hline : (apos.endLine == cpos.line) = true := by rfl) (hs : starEach (e :: es) X.env = (false, eval e X.env) :: starEach es X.env := by rfl) (hplain : (backTo cpos (starEach es X.env)).any (·.1) = false := by rfl) :
    PE X (.Call (.Attribute o name apos) (e :: es) [] cpos) (tBM X.K T r to t) := by
  intro pins s σ H Q I h
  refine wpAny_Call_method_late hbase hfew hline rfl (thn (ho pins s σ H _ I h) fun v s1 ⟨x, H1, I1, r1, ty, q1⟩ => ?_)
  obtain ⟨h1, h2⟩ := tyV_is I1 r1 ty
  refine ⟨T, id, pa, slot, hty, h1, h2, ?_⟩
  have hA := ha cpos pins s1 σ H1 _ I1 q1
  rw [hs] at hA ⊢
  refine Calls.callWith_builtin (by show (false || (backTo cpos (starEach es X.env)).any (·.1)) = false; rw [hplain] <;> rfl) (Calls.evalArgs_plain ?_)
  exact thn hA fun us s2 ⟨vs, H2, I2, r2, q2⟩ => hm pins s2 σ H2 x vs v us Q I2 r1 r2 q2
/- xs.append(e), list.index on a module's tuple .. are MtR facts of 06m -/
end
end L2

namespace L2
open PySem PySem.Spec PyProof.Rows

def MtM (X : Cx) (id : String) (r : V → List V → Hp → VK → Prop) : Prop :=
  ∀ (pins : List (Addr × Obj)) (s : Shared) (σ : St) (H : Hp) (x : V) (xs : List V) (v : Value) (us : List Value) (Q : VK), Inv X pins σ H s → RelV x v → Vals xs us → r x xs H Q →
    wpAny (model X.prog X.w) X.A (call (.builtin id) (v :: us)) (EP X pins σ Q) X.xe s

/-! ### lists of values -/
theorem Vals.one : ∀ {x : V} {us : List Value}, Vals [x] us → ∃ u, us = [u] ∧ RelV x u
  | _, _, .cons r .nil => ⟨_, rfl, r⟩
theorem Vals.rep {xs : List V} {us : List Value} (h : Vals xs us) : ∀ k : Nat, Vals (List.replicate k xs).flatten (List.replicate k us).flatten
  | 0 => .nil
  | k + 1 => by
    rw [List.replicate_succ, List.replicate_succ, List.flatten_cons, List.flatten_cons]
    exact Vals.append h (Vals.rep h k)
theorem foldl_rep (its : List Value) : ∀ (k : Nat) (acc : List Value),
    List.foldl (fun x1 x2 => x1 ++ x2) acc.toArray (List.replicate k its.toArray) = (acc ++ (List.replicate k its).flatten).toArray
  | 0, acc => by simp
  | k + 1, acc => by
    have e : acc.toArray ++ its.toArray = (acc ++ its).toArray := by simp
    have e2 : (acc ++ its) ++ (List.replicate k its).flatten = acc ++ (List.replicate (k + 1) its).flatten := by
      rw [List.replicate_succ, List.flatten_cons, List.append_assoc]
    rw [← e2, ← foldl_rep its k (acc ++ its), ← e, List.replicate_succ, List.foldl_cons]

section
variable {X : Cx} {pins : List (Addr × Obj)} {σ : St} {H : Hp} {s : Shared} {l b : Addr} {xs ys zs : List V}

/-! ### the two steps: a tracked list is rewritten, a new list is laid -/
theorem Inv.lset {its its' : List Value} {n : Nat} {f : Array Value → Array Value} {t' : Nat} (I : Inv X pins σ H s) (hH : H l = some (.lst xs))
    (e : s.heap.get? l = some { cls := .type "list", data := .seq its.toArray n }) (hf : f its.toArray = its'.toArray) (hv : Vals ys its') (hz : ys.length ≤ sizeLine) :
    Inv X pins σ (upd H l (.lst ys)) { s with heap := s.heap.update l (Obj.mapSeq f), toks := t' } := by
  have q := PySem.IsL.update e f
  rw [hf] at q
  refine I.write (x := l) (e := l) (by rw [hH]; exact trivial) (.inl rfl) (fun b' u hb hu => (Heap.get?_update_other s.heap (Obj.mapSeq f) (Ne.symm hb)).trans hu) ⟨_, q⟩ ?_
  exact ⟨hz, its', _, hv, q⟩
theorem Inv.lnew {its : List Value} {t' : Nat} (I : Inv X pins σ H s) (hv : Vals ys its) (hz : ys.length ≤ sizeLine) :
    Inv X pins σ (upd H s.heap.objs.size (.lst ys)) { s with heap := s.heap.push { cls := .type "list", data := .seq its.toArray }, toks := t' } :=
  I.laid (fun _ _ q => Heap.get?_push_of_some _ q) (Nat.le_refl _) ⟨hz, its, 0, hv, Heap.get?_push_size _ rfl⟩
theorem Inv.fresh (I : Inv X pins σ H s) : H s.heap.objs.size = none := I.hok.fresh (Nat.le_refl _)
theorem Inv.lstM (I : Inv X pins σ H s) (hH : H l = some (.lst xs)) : xs.length ≤ sizeLine ∧ ∃ (its : List Value) (n : Nat), Vals xs its ∧ xs.length = its.length ∧ s.heap.get? l = some { cls := .type "list", data := .seq its.toArray n } := by
  obtain ⟨z, its, n, r, e⟩ := I.hok l _ hH
  exact ⟨z, its, n, r, r.length, e⟩

theorem notLongL {n : Nat} (h : n ≤ sizeLine) : Builtin.List.listTooLong n = false := by
  unfold Builtin.List.listTooLong
  exact decide_eq_false (by omega)
end

section
variable {X : Cx}

/-! ### methods -/
def rAppend : V → List V → Hp → VK → Prop := fun x vs H Q => ∃ l xs y, x = .ref l ∧ vs = [y] ∧ H l = some (.lst xs) ∧ xs.length < sizeLine ∧ Q .non (upd H l (.lst (xs ++ [y])))
theorem mt_append : MtM X "list.append" rAppend := by
  intro pins s σ H x vs v us Q I rx rv h
  obtain ⟨l, xs, y, rfl, rfl, hH, hz, q⟩ := h
  cases rx
  obtain ⟨u, rfl, ru⟩ := rv.one
  obtain ⟨z, its, n, r, hl, e⟩ := I.lstM hH
  refine call_meets F.slot_list_append ⟨_, e, rfl⟩ F.entry_list_append (F.args_list_append_2 _ _) (PySem.list_append l its.toArray n u (by rw [List.size_toArray]; omega)) ⟨e, ?_⟩
  refine ⟨.non, _, I.lset (its' := its ++ [u]) hH e (by simp) (r.append (.cons ru .nil)) ?_, rfl, q⟩
  rw [List.length_append, List.length_singleton]
  omega

def rExtend : V → List V → Hp → VK → Prop := fun x vs H Q => ∃ l b xs zs, x = .ref l ∧ vs = [.ref b] ∧ H l = some (.lst xs) ∧ H b = some (.lst zs) ∧ xs.length + zs.length ≤ sizeLine ∧ Q .non (upd H l (.lst (xs ++ zs)))
theorem mt_extend : MtM X "list.extend" rExtend := by
  intro pins s σ H x vs v us Q I rx rv h
  obtain ⟨l, b, xs, zs, rfl, rfl, hH, hB, hz, q⟩ := h
  cases rx
  obtain ⟨u, rfl, ru⟩ := rv.one
  cases ru
  obtain ⟨z, its, n, r, hl, e⟩ := I.lstM hH
  obtain ⟨z2, its2, n2, r2, hl2, e2⟩ := I.lstM hB
  have hsz : its.toArray.size + its2.toArray.size ≤ sizeLine := by rw [List.size_toArray, List.size_toArray]; omega
  have hlong : ¬ (!its.toArray.isEmpty && Builtin.List.listTooLong (its.toArray.size + its2.toArray.size)) = true := by
    rw [notLongL hsz, Bool.and_false]
    exact Bool.false_ne_true
  refine call_meets F.slot_list_extend ⟨_, e, rfl⟩ F.entry_list_extend (F.args_list_extend_2 _ _)
    (AutoSeq1.list_extend_list_list_0 l its.toArray n b its2.toArray n2 hlong (by rw [List.size_toArray]; omega) (by omega)) ⟨e, e2, ?_⟩
  refine ⟨.non, _, I.lset (its' := its ++ its2) hH e (by simp) (r.append r2) ?_, rfl, q⟩
  rw [List.length_append]
  omega

/-! ### list + list, list += list, list * int -/
def rCat : R2 := fun x y H Q => ∃ l b xs zs, x = .ref l ∧ y = .ref b ∧ H l = some (.lst xs) ∧ H b = some (.lst zs) ∧ xs.length + zs.length ≤ sizeLine ∧ ∀ p, H p = none → Q (.ref p) (upd H p (.lst (xs ++ zs)))
theorem op_cat : OpR X (binaryOp .Add) rCat := by
  intro pins s σ H x y v u Q I rx ry h
  obtain ⟨l, b, xs, zs, rfl, rfl, hH, hB, hz, q⟩ := h
  cases rx
  cases ry
  obtain ⟨z, its, n, r, hl, e⟩ := I.lstM hH
  obtain ⟨z2, its2, n2, r2, hl2, e2⟩ := I.lstM hB
  refine PySem.P.add_list e e2 ?_ (by rw [List.size_toArray, List.size_toArray]; omega)
  have ea : its.toArray ++ its2.toArray = (its ++ its2).toArray := by simp
  rw [ea]
  exact ⟨.ref _, _, I.lnew (t' := s.toks) (r.append r2) (by rw [List.length_append]; omega), rfl, q _ I.fresh⟩
/-- a list times an int (a negative one is nothing) -/
def rRep : R2 := fun x y H Q => ∃ l k xs, x = .ref l ∧ y = .int k ∧ H l = some (.lst xs) ∧ -(2 ^ 63) ≤ k ∧ k < 2 ^ 63 ∧ xs.length * k.toNat ≤ sizeLine ∧
  ∀ p, H p = none → Q (.ref p) (upd H p (.lst (List.replicate k.toNat xs).flatten))
theorem len_rep {α : Type} (xs : List α) (k : Nat) : (List.replicate k xs).flatten.length = k * xs.length := by
  induction k with
  | zero => simp
  | succ k ih => rw [List.replicate_succ, List.flatten_cons, List.length_append, ih, Nat.succ_mul, Nat.add_comm]
theorem op_rep : OpR X (binaryOp .Mult) rRep := by
  intro pins s σ H x y v u Q I rx ry h
  obtain ⟨l, k, xs, rfl, rfl, hH, h1, h2, hz, q⟩ := h
  cases rx
  obtain ⟨t, rfl⟩ := ry
  obtain ⟨z, its, n, r, hl, e⟩ := I.lstM hH
  have hlen : its.toArray.size * k.toNat ≤ sizeLine := by rw [List.size_toArray, ← hl]; exact hz
  have hcap : ¬ its.toArray.size * k.toNat > (2 ^ 63 - 1) / 8 := by
    have : (sizeLine : Nat) ≤ (2 ^ 63 - 1) / 8 := by decide
    omega
  have hfit : ¬ (!Builtin.List.listFitsIndex k) = true := by
    rw [fitsIndex_both h1 h2]
    exact Bool.false_ne_true
  have hlong : ¬ Builtin.List.listTooLong (its.toArray.size * k.toNat) = true := by
    rw [notLongL hlen]
    exact Bool.false_ne_true
  have hnew : List.foldl (fun x1 x2 => x1 ++ x2) #[] (List.replicate (if its.toArray.isEmpty = true then 0 else k.toNat) its.toArray) = (List.replicate k.toNat its).flatten.toArray := by
    have f0 : ∀ m : Nat, List.foldl (fun x1 x2 => x1 ++ x2) #[] (List.replicate m its.toArray) = (List.replicate m its).flatten.toArray := fun m => by
      have := foldl_rep its m []
      rw [List.nil_append] at this
      exact this
    rw [f0]
    cases its with
    | nil => simp
    | cons a r' => rw [if_neg (by simp)]
  refine wpAny_binaryOp_repeat_ref (T := "list") (U := "int") (by decide) ⟨_, e, rfl⟩ (fun s' => typeIs_int s' k t) noFill_list_mul F.fills_int_mul F.slot_int_rmul repeat_list F.slot_int_index.lookup
    (call_meets F.slot_int_rmul (typeIs_int s k t) F.entry_int_rmul (F.args_int_rmul_2 _ _) (int___rmul___int_list k t l its.toArray n)
      ⟨e, rfl, ⟨_, e, rfl⟩, call_meets F.slot_list_mul ⟨_, e, rfl⟩ F.entry_list_mul (F.args_list_mul_2 _ _) (AutoListH.list___mul___list_int_3 l its.toArray n k t hfit hcap hlong) ⟨e, ?_⟩⟩)
  rw [hnew]
  exact ⟨.ref _, _, I.lnew (t' := s.toks) (r.rep k.toNat) (by rw [len_rep, Nat.mul_comm]; exact hz), rfl, q _ I.fresh⟩

end

end L2

namespace L2
open PySem PySem.Spec PyProof.Rows

theorem Vals.ints : ∀ {ns : List Int} {us : List Value}, Vals (ns.map V.int) us → IntsAre us ns
  | [], us, h => by
    rw [List.map_nil] at h
    cases h
    exact IntsAre.nil
  | n :: ns, us, h => by
    rw [List.map_cons] at h
    cases h with
    | cons r t =>
      obtain ⟨k, rfl⟩ := r
      exact IntsAre.cons n k (Vals.ints t)
theorem vals_of_ints : ∀ {us : List Value} {ns : List Int}, IntsAre us ns → Vals (ns.map V.int) us
  | _, _, .nil => by rw [List.map_nil]; exact Paired.nil
  | _, _, .cons n t h => by rw [List.map_cons]; exact Paired.cons (show RelV (V.int n) (Value.int n t) from ⟨t, rfl⟩) (vals_of_ints h)
theorem Vals.ref1 {a : Addr} {us : List Value} (r : Vals [V.ref a] us) : us = [Value.ref a] := by
  cases r with
  | cons r t =>
    cases t
    cases r
    rfl

/-! ### the library's walks over a list of ints, kept objects alone -/
section
variable {prog : Program} {w : World} {A : Around} {E : Value → Shared → Prop} {s : Shared} {l : Addr} {its : List Value} {ns : List Int} {Q : Value → Shared → Prop}
theorem sum_raw (hh : A.handled = none) (hl : s.heap.IsList l its.toArray) (hi : IntsAre its ns)
    (h : ∀ h' tk t', (∀ b o, s.heap.get? b = some o → h'.get? b = some o) → Q (.int ns.sum t') { s with heap := h', toks := tk }) : wpAny (model prog w) A (call (.builtin "sum") [.ref l]) Q E s := by
  obtain ⟨xs, e⟩ := hi.allInts.items
  have hn : numsOf (intItems xs).toList = ns := by rw [← e]; exact hi.numsOf
  rw [nums_intItems] at hn
  rw [e] at hl
  refine PySem.sum_intListG hh hl fun h' tk t' hk => ?_
  have := h h' tk t' hk
  rw [preSum_eq, List.take_of_length_le (by simp), hn]; exact this
end

/-! ### the calls, by values (CallR of 03t; MtR of 06l) -/
section
variable {X : Cx}
/-- sum(xs) of a list of ints -/
def rSum (K : PySem.W.Frag) : List V → Hp → VK → Prop := fun vs H Q => ∃ (a : Addr) (ns : List Int), vs = [V.ref a] ∧ SqL K H a (ns.map V.int) ∧ Q (.int ns.sum) H
theorem cr_sum (hc : X.calm = true) : CallR X (.builtin "sum") (rSum X.K) := by
  intro pins s σ H vs us Q I r h
  obtain ⟨a, ns, rfl, hs, q⟩ := h
  obtain ⟨its, rv, hl, _⟩ := I.list hs
  rw [Vals.ref1 r]
  exact sum_raw (I.ok.hd hc) hl.isList rv.ints fun h' tk t' hk => ⟨.int _, H, I.kept hk, ⟨_, rfl⟩, q⟩

end

/-! ### == and != of data at any depth: none, bools, ints, texts, lists, tuples -/
mutual
inductive Dp (K : PySem.W.Frag) (H : Hp) : V → PyData → Prop
  | non : Dp K H .non .none
  | bl (b : Bool) : Dp K H (.bl b) (.bool b)
  | int (i : Int) : Dp K H (.int i) (.int i)
  | str (x : Str) : Dp K H (.str x) (.str x)
  | lst {a : Addr} {xs : List V} {ds : List PyData} : SqL K H a xs → DpAll K H xs ds → Dp K H (.ref a) (.list ds)
  | tup {a : Addr} {xs : List V} {ds : List PyData} : SqT K H a xs → DpAll K H xs ds → Dp K H (.ref a) (.tuple ds)
inductive DpAll (K : PySem.W.Frag) (H : Hp) : List V → List PyData → Prop
  | nil : DpAll K H [] []
  | cons {v : V} {vs : List V} {d : PyData} {ds : List PyData} : Dp K H v d → DpAll K H vs ds → DpAll K H (v :: vs) (d :: ds)
end
section
variable {X : Cx} {pins : List (Addr × Obj)} {σ : St} {H : Hp} {s : Shared}
mutual
theorem Dp.reads (I : Inv X pins σ H s) : ∀ (d : PyData) (v : V) (u : Value), Dp X.K H v d → RelV v u → ∃ as, Reads s.heap u d as
  | .none, _, _, h, r => by
    cases h
    cases r
    exact ⟨_, Reads.none⟩
  | .bool b, _, _, h, r => by
    cases h
    cases r
    exact ⟨_, Reads.bool b⟩
  | .int i, _, _, h, r => by
    cases h
    obtain ⟨t, rfl⟩ := r
    exact ⟨_, Reads.int i t⟩
  | .str x, _, _, h, r => by
    cases h
    obtain ⟨t, rfl⟩ := r
    exact ⟨_, Reads.str x t⟩
  | .list ds, _, _, h, r => by
    cases h with
    | lst hs ha =>
      cases r
      obtain ⟨its, rv, ⟨o, n, ho, hc, _, hd⟩, _⟩ := I.list hs
      obtain ⟨as, hr⟩ := Dp.readsAll I ds _ its ha rv
      exact ⟨_, Reads.list ho hc hd hr⟩
  | .tuple ds, _, _, h, r => by
    cases h with
    | tup hs ha =>
      cases r
      obtain ⟨its, rv, ⟨o, ho, hc, n, hd⟩, _⟩ := I.tuple hs
      obtain ⟨as, hr⟩ := Dp.readsAll I ds _ its ha rv
      exact ⟨_, Reads.tuple ho hc hd hr⟩
  | .dict _, _, _, h, _ => by cases h
theorem Dp.readsAll (I : Inv X pins σ H s) : ∀ (ds : List PyData) (vs : List V) (us : List Value), DpAll X.K H vs ds → Vals vs us → ∃ as, ReadsAll s.heap us ds as
  | [], _, _, h, r => by
    cases h
    cases r
    exact ⟨_, ReadsAll.nil⟩
  | d :: ds, _, _, h, r => by
    cases h with
    | cons h1 h2 =>
      cases r with
      | cons r1 r2 =>
        obtain ⟨as, q1⟩ := Dp.reads I d _ _ h1 r1
        obtain ⟨bs, q2⟩ := Dp.readsAll I ds _ _ h2 r2
        exact ⟨_, ReadsAll.cons q1 q2⟩
end
end
section
variable {X : Cx}
def rEqD (K : PySem.W.Frag) : R2 := fun x y H Q => ∃ d e, Dp K H x d ∧ Dp K H y e ∧ SeqAt.shaped d = true ∧ SeqAt.shaped e = true ∧ Q (.bl (PyData.eqv d e)) H
theorem op_eqD (hu : X.A.units + 64 < cLine) : OpR X (compareOp .Eq) (rEqD X.K) := by
  intro pins s σ H x y v u Q I rx ry h
  obtain ⟨d, e, hd, he, sd, se, q⟩ := h
  obtain ⟨as, r1⟩ := Dp.reads I d x v hd rx
  obtain ⟨bs, r2⟩ := Dp.reads I e y u he ry
  exact SeqAt.compareEq_shaped r1 r2 sd se hu ⟨.bl _, H, I, rfl, q⟩
end
end L2

namespace L2
open PySem PySem.Spec PyProof.Rows
abbrev CellAt (h : Heap) (c : Addr) (v : Option Value) : Prop := h.IsCell c v
def relS (scope sc : Scope) : Scope :=
  { scope with names := scope.names.map fun (n, k) => if (k == .free && sc.kind == .function && sc.names.lookup n == some .cell) then (n, .cell) else (n, k) }

def cloFrom (cells : List (Str × Addr)) : List (Str × NameKind) → List (Str × Addr) → List (Str × Addr)
  | [], acc => acc
  | (n, k) :: r, acc => if k == .free then cloFrom cells r ((n, (cells.lookup n).getD 0) :: acc) else cloFrom cells r acc

theorem closure_loop (env : Env) (f : Str × NameKind → List (Str × Addr) → Sem (ForInStep (List (Str × Addr))))
    (hf : ∀ n k c, f (n, k) c = if k == .free then (do let a ← cellOf env n; pure (.yield ((n, a) :: c))) else pure (.yield c)) :
    ∀ (names : List (Str × NameKind)) (acc : List (Str × Addr)), (∀ y ∈ names, y.2 = .free → ∃ c, env.cells.lookup y.1 = some c) → forIn names acc f = pure (cloFrom env.cells names acc)
  | [], acc, _ => by rw [List.forIn_nil]; rfl
  | (n, k) :: r, acc, h => by
    rw [List.forIn_cons, hf]
    have ih := fun acc => closure_loop env f hf r acc fun y hy => h y (List.mem_cons_of_mem _ hy)
    unfold cloFrom
    by_cases hk : (k == NameKind.free) = true
    · rw [if_pos hk, if_pos hk]
      obtain ⟨c, hc⟩ := h (n, k) List.mem_cons_self (by simpa using hk)
      have e : cellOf env n = pure c := by unfold cellOf; rw [hc]
      rw [e]
      have e2 : (env.cells.lookup n).getD 0 = c := by rw [hc]; rfl
      rw [e2]
      exact ih _
    · rw [if_neg hk, if_neg hk]
      exact ih _
theorem closure_ok {scope : Scope} {env : Env} (h : ∀ y ∈ scope.names, y.2 = .free → ∃ c, env.cells.lookup y.1 = some c) : closureFor scope env = pure (cloFrom env.cells scope.names []) := by
  simp only [closureFor]
  rw [closure_loop env _ (fun n k c => rfl) scope.names [] h]
  rfl

theorem mem_lookup {α : Type} : ∀ {l : List (Str × α)} {n : Str} {c : α}, (n, c) ∈ l → ∃ c', l.lookup n = some c'
  | (k, v) :: r, n, c, h => by
    rw [List.lookup_cons]
    cases hb : n == k with
    | true => exact ⟨_, rfl⟩
    | false =>
      rcases List.mem_cons.mp h with e | h
      · cases e; simp at hb
      · exact mem_lookup h

theorem cloFrom_mem {cells : List (Str × Addr)} : ∀ {names : List (Str × NameKind)} {acc : List (Str × Addr)} {n : Str} {c : Addr}, (n, c) ∈ cloFrom cells names acc → (n, c) ∈ acc ∨ ((n, .free) ∈ names ∧ c = (cells.lookup n).getD 0)
  | [], _, _, _, h => .inl h
  | (m, k) :: r, acc, n, c, h => by
    unfold cloFrom at h
    split at h
    · rename_i hk
      have hk : k = .free := by simpa using hk
      rcases cloFrom_mem h with h | ⟨h1, h2⟩
      · rcases List.mem_cons.mp h with e | h
        · cases e; exact .inr ⟨hk ▸ List.mem_cons_self, rfl⟩
        · exact .inl h
      · exact .inr ⟨List.mem_cons_of_mem _ h1, h2⟩
    · rcases cloFrom_mem h with h | ⟨h1, h2⟩
      · exact .inl h
      · exact .inr ⟨List.mem_cons_of_mem _ h1, h2⟩
theorem cloFrom_acc {cells : List (Str × Addr)} : ∀ {names : List (Str × NameKind)} {acc : List (Str × Addr)} {p : Str × Addr}, p ∈ acc → p ∈ cloFrom cells names acc
  | [], _, _, h => h
  | (m, k) :: r, acc, p, h => by
    unfold cloFrom
    split
    · exact cloFrom_acc (List.mem_cons_of_mem _ h)
    · exact cloFrom_acc h
theorem cloFrom_has {cells : List (Str × Addr)} : ∀ {names : List (Str × NameKind)} {acc : List (Str × Addr)} {n : Str}, (n, .free) ∈ names → (n, (cells.lookup n).getD 0) ∈ cloFrom cells names acc
  | (m, k) :: r, acc, n, h => by
    unfold cloFrom
    rcases List.mem_cons.mp h with e | h
    · cases e
      exact cloFrom_acc List.mem_cons_self
    · split
      · exact cloFrom_has h
      · exact cloFrom_has h

theorem cells_mem : ∀ {names : List (Str × NameKind)} {h : Heap} {acc : List (Str × Addr)} {x : Str} {c : Addr}, (x, c) ∈ cellsFrom h.objs.size names acc →
    (x, c) ∈ acc ∨ ((x, .cell) ∈ names ∧ h.objs.size ≤ c ∧ CellAt (pushCells h names) c none)
  | [], _, _, _, _, h => .inl h
  | (n, k) :: r, h, acc, x, c, hm => by
    unfold cellsFrom at hm
    unfold pushCells
    split at hm
    · rename_i hk
      rw [if_pos hk]
      have hk : k = .cell := by simpa using hk
      rw [← Heap.size_push h { cls := .type "cell", data := .cell none }] at hm
      rcases cells_mem hm with hm | ⟨h1, h2, h3⟩
      · rcases List.mem_cons.mp hm with e | hm
        · cases e
          exact .inr ⟨hk ▸ List.mem_cons_self, Nat.le_refl _, _, pushCells_keeps r _ _ _ (Heap.get?_push_size _ rfl), rfl⟩
        · exact .inl hm
      · rw [Heap.size_push] at h2
        exact .inr ⟨List.mem_cons_of_mem _ h1, Nat.le_of_succ_le h2, h3⟩
    · rename_i hk
      rw [if_neg hk]
      rcases cells_mem hm with hm | ⟨h1, h2, h3⟩
      · exact .inl hm
      · exact .inr ⟨List.mem_cons_of_mem _ h1, h2, h3⟩
theorem cells_acc : ∀ {names : List (Str × NameKind)} {n : Nat} {acc : List (Str × Addr)} {p : Str × Addr}, p ∈ acc → p ∈ cellsFrom n names acc
  | [], _, _, _, h => h
  | (m, k) :: r, n, acc, p, h => by
    unfold cellsFrom
    split
    · exact cells_acc (List.mem_cons_of_mem _ h)
    · exact cells_acc h
theorem cells_has : ∀ {names : List (Str × NameKind)} {n : Nat} {acc : List (Str × Addr)} {x : Str}, (x, .cell) ∈ names → ∃ c, (x, c) ∈ cellsFrom n names acc
  | (m, k) :: r, n, acc, x, h => by
    unfold cellsFrom
    rcases List.mem_cons.mp h with e | h
    · cases e
      exact ⟨n, cells_acc List.mem_cons_self⟩
    · split
      · exact cells_has h
      · exact cells_has h
theorem cells_inj : ∀ {names : List (Str × NameKind)} {h : Heap} {acc : List (Str × Addr)} {x y : Str} {c : Addr}, (∀ p ∈ acc, p.2 < h.objs.size) → (∀ x y c, (x, c) ∈ acc → (y, c) ∈ acc → x = y) →
    (x, c) ∈ cellsFrom h.objs.size names acc → (y, c) ∈ cellsFrom h.objs.size names acc → x = y
  | [], _, _, _, _, _, _, hi, h1, h2 => hi _ _ _ h1 h2
  | (n, k) :: r, h, acc, x, y, c, hl, hi, h1, h2 => by
    unfold cellsFrom at h1 h2
    split at h1
    · rename_i hk
      rw [if_pos hk] at h2
      rw [← Heap.size_push h { cls := .type "cell", data := .cell none }] at h1 h2
      refine cells_inj (h := h.push _) (fun p hp => ?_) (fun x y c a b => ?_) h1 h2
      · rw [Heap.size_push]
        rcases List.mem_cons.mp hp with rfl | hp
        · exact Nat.lt_succ_self _
        · exact Nat.lt_succ_of_lt (hl p hp)
      · rcases List.mem_cons.mp a with e | a <;> rcases List.mem_cons.mp b with e' | b
        · cases e; cases e'; rfl
        · cases e; exact absurd (hl _ b) (Nat.lt_irrefl _)
        · cases e'; exact absurd (hl _ a) (Nat.lt_irrefl _)
        · exact hi _ _ _ a b
    · rename_i hk
      rw [if_neg hk] at h2
      exact cells_inj hl hi h1 h2

theorem newEnv_comp {M : Model} {A : Around} {E : Value → Shared → Prop} {s : Shared} {scope : Scope} {globals : Addr} {closure : List (Str × Addr)} {qual : Str} {func : Option Addr} {code : Value} {around : Env} {builtins : Addr} {Q : Env → Shared → Prop}
    (h : Q (newEnv scope s.heap.objs.size globals (cellsFrom (s.heap.objs.size + 1) scope.names closure) qual func code (some around) builtins)
      { s with heap := pushCells (s.heap.push { cls := .type "dict", data := .dict #[] }) scope.names }) :
    wpAny M A (newFunctionEnv scope globals closure [] qual func code (some around) builtins) Q E s := by
  simp only [newFunctionEnv, Option.isSome_some, if_true]
  refine wpAny_bind (wpAny_alloc ?_)
  refine wpAny_bind (wpAny_layCells _ (fun n k c => rfl) scope.names closure _ _ ?_)
  rw [show ({ s with heap := s.heap.push { cls := .type "dict", data := .dict #[] } } : Shared).heap.objs.size = s.heap.objs.size + 1 from Heap.size_push ..]
  rw [List.forIn_nil]
  exact wpAny_bind (wpAny_pure (wpAny_pure h))

/-- every name of the written scope, in the scope that runs -/
theorem lookup_relS {sc : Scope} : ∀ {names : List (Str × NameKind)} {x : Str} {k : NameKind},
    (names.map fun (n, k) => if (k == NameKind.free && sc.kind == .function && sc.names.lookup n == some .cell) then (n, NameKind.cell) else (n, k)).lookup x = some k →
    ∃ k', names.lookup x = some k' ∧ (k = k' ∨ (k' = .free ∧ k = .cell))
  | [], _, _, h => by simp at h
  | (n, k₀) :: r, x, k, h => by
    have ih := @lookup_relS sc r x k
    have h' : List.lookup x ((if (k₀ == NameKind.free && sc.kind == .function && sc.names.lookup n == some .cell) = true then (n, NameKind.cell) else (n, k₀)) :: (r.map _)) = some k := h
    cases hx : x == n with
    | true =>
      simp only [List.lookup_cons, hx]
      by_cases hc : (k₀ == NameKind.free && sc.kind == .function && sc.names.lookup n == some .cell) = true
      · rw [if_pos hc] at h'
        simp only [List.lookup_cons, hx] at h'
        cases h'
        simp only [Bool.and_eq_true, beq_iff_eq] at hc
        exact ⟨k₀, rfl, .inr ⟨hc.1.1, rfl⟩⟩
      · rw [if_neg hc] at h'
        simp only [List.lookup_cons, hx] at h'
        cases h'
        exact ⟨_, rfl, .inl rfl⟩
    | false =>
      simp only [List.lookup_cons, hx]
      by_cases hc : (k₀ == NameKind.free && sc.kind == .function && sc.names.lookup n == some .cell) = true
      · rw [if_pos hc] at h'
        simp only [List.lookup_cons, hx] at h'
        exact ih h'
      · rw [if_neg hc] at h'
        simp only [List.lookup_cons, hx] at h'
        exact ih h'

/-- the names of a comprehension's block: its own (with their places in N), or captured -/
structure BlkOk (N : List Str) (sc scope : Scope) (own : List (Str × Nat)) : Prop where
  kind : scope.kind = .function
  uniq : ∀ y ∈ scope.names, scope.names.lookup y.1 = some y.2
  ix : ∀ p ∈ own, N[p.2]? = some p.1
  free : ∀ y ∈ scope.names, y.2 = .free → sc.names.lookup y.1 = some .cell ∨ sc.names.lookup y.1 = some .free
  own : ∀ y ∈ scope.names, y.2 = .local ∨ y.2 = .cell → y.1 ∈ own.map (·.1) ∨ y.1 ∉ N
/-- the slots of the block's own names forgotten -/
def wipe (σ : St) : List Nat → St
  | [] => σ
  | v :: vs => (wipe σ vs).set v none
theorem wipe_length (σ : St) : ∀ vs : List Nat, (wipe σ vs).length = σ.length
  | [] => rfl
  | v :: vs => by unfold wipe; rw [List.length_set, wipe_length σ vs]
theorem wipe_some {σ : St} {i : Nat} {x : V} : ∀ {vs : List Nat}, (wipe σ vs)[i]? = some (some x) → σ[i]? = some (some x) ∧ i ∉ vs
  | [], h => ⟨h, by simp⟩
  | v :: vs, h => by
    unfold wipe at h
    by_cases hi : v = i
    · subst hi
      by_cases hv : v < (wipe σ vs).length
      · rw [List.getElem?_set_self hv] at h; cases h
      · rw [List.getElem?_eq_none (by simpa using hv)] at h; cases h
    · rw [List.getElem?_set_ne hi] at h
      obtain ⟨h1, h2⟩ := wipe_some h
      exact ⟨h1, by simp only [List.mem_cons, not_or]; exact ⟨fun e => hi e.symm, h2⟩⟩

/-- the context of a block that starts at s, its iterator's objects at fp -/
abbrev Cx.blk (X : Cx) (s : Shared) (H : Hp) (scope : Scope) (cenv : Env) (fp : List Addr) : Cx := { X with s_0 := s, H_0 := H, env := cenv, outer := X.stack, ex := fp, fn := fun x => scope.names.lookup x == some .cell, pn := [], xe := fun _ _ => False }
section
variable {X : Cx} {pins : List (Addr × Obj)} {σ : St} {H : Hp} {s : Shared}
theorem block_start {scope : Scope} {own : List (Str × Nat)} {fp : List Addr} (I : Inv X pins σ H s) (ok : BlkOk X.N X.env.scope scope own) (hN : X.N.Nodup) (hfp : ∀ b ∈ fp, FpOk X pins H b ∧ b < s.heap.objs.size) :
    Inv (X.blk s H scope (compEnvC scope (cellsFrom (s.heap.objs.size + 1) scope.names (cloFrom X.env.cells scope.names [])) s.heap.objs.size X.env) fp) [] (wipe σ (own.map (·.2))) H { s with heap := pushCells (s.heap.push { cls := .type "dict", data := .dict #[] }) scope.names } := by
  have hfree : ∀ y ∈ scope.names, y.2 = .free → ∃ c, X.env.cells.lookup y.1 = some c := fun y hy e => by
    rcases ok.free y hy e with k | k
    · exact I.ok.has _ (.inl k)
    · exact I.ok.has _ (.inr k)
  generalize hcenv : compEnvC scope (cellsFrom (s.heap.objs.size + 1) scope.names (cloFrom X.env.cells scope.names [])) s.heap.objs.size X.env = cenv
  have kp : ∀ b o, s.heap.get? b = some o → (pushCells (s.heap.push { cls := .type "dict", data := .dict #[] }) scope.names).get? b = some o := fun b o e => pushCells_keeps _ _ _ _ (Heap.get?_push_of_some _ e)
  have hL : cenv.locals = s.heap.objs.size := by rw [← hcenv]; rfl
  have hcl : cenv.cells = cellsFrom (s.heap.objs.size + 1) scope.names (cloFrom X.env.cells scope.names []) := by rw [← hcenv]; rfl
  have hsc : cenv.scope = relS scope X.env.scope := by rw [← hcenv]; rfl
  rw [← Heap.size_push s.heap { cls := .type "dict", data := .dict #[] }] at hcl
  have cm : ∀ {y c}, (y, c) ∈ cloFrom X.env.cells scope.names [] → X.env.cells.lookup y = some c ∧ c < s.heap.objs.size := fun {y c} hm => by
    rcases cloFrom_mem hm with hm | ⟨h1, rfl⟩
    · cases hm
    · obtain ⟨c, hc⟩ := hfree _ h1 rfl
      rw [hc]
      obtain ⟨w, z⟩ := I.cell _ _ hc
      exact ⟨rfl, z.lt⟩
  have mem : ∀ {y c}, cenv.cells.lookup y = some c → (X.env.cells.lookup y = some c ∧ c < s.heap.objs.size) ∨ (s.heap.objs.size + 1 ≤ c ∧ CellAt (pushCells (s.heap.push { cls := .type "dict", data := .dict #[] }) scope.names) c none) := fun {y c} e => by
    rw [hcl] at e
    rcases cells_mem (PySem.mem_of_lookup e) with hm | ⟨_, h2, h3⟩
    · exact .inl (cm hm)
    · rw [Heap.size_push] at h2; exact .inr ⟨h2, h3⟩
  have look : ∀ {y}, scope.names.lookup y = some .free → ∃ c, cenv.cells.lookup y = some c ∧ X.env.cells.lookup y = some c := fun {y} hl => by
    have hy : (y, NameKind.free) ∈ scope.names := PySem.mem_of_lookup hl
    obtain ⟨c', e'⟩ := mem_lookup (cells_acc (names := scope.names) (n := (s.heap.push { cls := .type "dict", data := .dict #[] }).objs.size) (cloFrom_has (cells := X.env.cells) (acc := []) hy))
    rw [← hcl] at e'
    refine ⟨c', e', ?_⟩
    rw [hcl] at e'
    rcases cells_mem (PySem.mem_of_lookup e') with hm | ⟨h1, _, _⟩
    · exact (cm hm).1
    · have := ok.uniq _ h1
      rw [hl] at this; cases this
  have okB : (X.blk s H scope cenv fp).Ok := by
    refine ⟨I.ok.mod, by show cenv.scope.kind = _; rw [hsc]; exact ok.kind, by show cenv.globals = _; rw [← hcenv]; exact I.ok.glob, by show cenv.builtins = _; rw [← hcenv]; exact I.ok.blt, by show s.heap.objs.size ≤ cenv.locals; rw [hL]; exact Nat.le_refl _,
      fun y z c e1 e2 => ?_, fun y hy => ?_, fun y c z e => ?_, I.ok.hd, I.ok.frames, .inl rfl, fun b hb => ⟨?_, fun y c e z => ?_⟩, I.bs, Nat.le_trans I.ok.bsz I.sz, fun b o e hb => ?_, fun b hb z => ?_, I.stack, I.stkFree⟩
    · have e1 : cenv.cells.lookup y = some c := e1
      have e2 : cenv.cells.lookup z = some c := e2
      rw [hcl] at e1 e2
      refine cells_inj (fun p hp => ?_) (fun y z c a b => I.ok.inj y z c (cm a).1 (cm b).1) (PySem.mem_of_lookup e1) (PySem.mem_of_lookup e2)
      rw [Heap.size_push]
      exact Nat.lt_succ_of_lt (cm (y := p.1) (c := p.2) hp).2
    · show ∃ c, cenv.cells.lookup y = some c
      have key : ∀ k, cenv.kindOf y = some k → (k = .cell ∨ k = .free) → ∃ c, cenv.cells.lookup y = some c := fun k hk hk' => by
        unfold Env.kindOf at hk
        rw [hsc] at hk
        obtain ⟨k', e, r⟩ := lookup_relS hk
        have : k' = .cell ∨ k' = .free := by
          rcases r with rfl | ⟨rfl, _⟩
          · exact hk'
          · exact .inr rfl
        rcases this with rfl | rfl
        · obtain ⟨c, hm⟩ := cells_has (n := (s.heap.push { cls := .type "dict", data := .dict #[] }).objs.size) (acc := cloFrom X.env.cells scope.names []) (PySem.mem_of_lookup e)
          obtain ⟨c', e'⟩ := mem_lookup hm
          exact ⟨c', by rw [hcl]; exact e'⟩
        · obtain ⟨c, h1, _⟩ := look e
          exact ⟨c, h1⟩
      rcases hy with hy | hy
      · exact key _ hy (.inl rfl)
      · exact key _ hy (.inr rfl)
    · have z : (scope.names.lookup y == some NameKind.cell) = true := z
      have z : scope.names.lookup y = some .cell := by simpa using z
      have e : cenv.cells.lookup y = some c := e
      rw [hcl] at e
      rcases cells_mem (PySem.mem_of_lookup e) with hm | ⟨_, h2, _⟩
      · rcases cloFrom_mem hm with hm | ⟨h1, _⟩
        · cases hm
        · have q := ok.uniq _ h1
          rw [z] at q; cases q
      · rw [Heap.size_push] at h2
        exact Nat.le_of_succ_le h2
    · show b ≠ cenv.locals
      rw [hL]; exact Nat.ne_of_lt (hfp b hb).2
    · have e : cenv.cells.lookup y = some c := e
      rcases mem e with ⟨h1, _⟩ | ⟨h1, _⟩
      · exact (hfp b hb).1.2.2.2.2.1 y c h1 z
      · have h2 : s.heap.objs.size + 1 ≤ b := by rw [← z]; exact h1
        exact absurd (Nat.lt_of_lt_of_le (hfp b hb).2 (Nat.le_of_succ_le h2)) (Nat.lt_irrefl _)
    · rcases (hfp b hb).1.2.2.2.1 with z | z
      · exact I.ok.noex b o e z
      · exact absurd (Nat.lt_of_lt_of_le (Heap.lt_size e) (Nat.le_trans I.ok.bsz z)) (Nat.lt_irrefl _)
    · rcases List.mem_cons.mp (I.stkSub b z) with z | z
      · exact (hfp b hb).1.2.1 z
      · exact (hfp b hb).1.2.2.1 z
  refine ⟨okB, rfl, I.bare, Un.kept kp, ⟨fun _ => none, ?_, fun i y av e1 e2 e3 => ?_⟩, fun y c e => ?_, ?_, fun y c e => ?_, fun p hp => ?_, I.hok.kept kp, by rw [wipe_length]; exact I.len⟩
  · show Heap.Ns _ cenv.locals _
    rw [hL]
    exact Heap.Ns.keeps (Heap.Ns.new ..) fun b o e => pushCells_keeps _ _ _ _ e
  · obtain ⟨e2, hne⟩ := wipe_some e2
    have hfr : scope.names.lookup y = some .free ∧ (cenv.kindOf y = some .cell ∨ cenv.kindOf y = some .free) := by
      have key : ∀ k, cenv.scope.names.lookup y = some k → k = .local ∨ k = .cell ∨ k = .free → scope.names.lookup y = some .free ∧ (cenv.kindOf y = some .cell ∨ cenv.kindOf y = some .free) := fun k hk hk' => by
        have hk0 := hk
        rw [hsc] at hk
        obtain ⟨k', e, r⟩ := lookup_relS hk
        have no : ¬ (k' = .local ∨ k' = .cell) := fun hh => by
          rcases ok.own _ (PySem.mem_of_lookup e) hh with e' | e'
          · obtain ⟨p, hp, hpy⟩ := List.mem_map.mp e'
            have e3 := ok.ix p hp
            have : p.1 = y := hpy
            rw [this] at e3
            exact hne (List.mem_map.mpr ⟨p, hp, nodup_ix hN e3 e1⟩)
          · exact e' (List.mem_of_getElem? e1)
        rcases r with rfl | ⟨rfl, rfl⟩
        · rcases hk' with rfl | rfl | rfl
          · exact absurd (.inl rfl) no
          · exact absurd (.inr rfl) no
          · exact ⟨e, .inr hk0⟩
        · exact ⟨e, .inl hk0⟩
      have e3 : Vis cenv.scope y := e3
      rcases e3 with e3 | e3 | e3
      · exact key _ e3 (.inl rfl)
      · exact key _ e3 (.inr (.inl rfl))
      · exact key _ e3 (.inr (.inr rfl))
    obtain ⟨m, hn, hl⟩ := I.loc
    have hvis : Vis X.env.scope y := (ok.free _ (PySem.mem_of_lookup hfr.1) rfl).elim (fun k => .inr (.inl k)) (fun k => .inr (.inr k))
    obtain ⟨w, r, q⟩ := hl i y av e1 e2 hvis
    refine ⟨w, r, .inr ⟨hfr.2, ?_⟩⟩
    obtain ⟨c, h1, h2⟩ := look hfr.1
    rcases q with ⟨k, _⟩ | ⟨_, c', e', z⟩
    · have k : X.env.scope.names.lookup y = some .local := k
      rcases ok.free _ (PySem.mem_of_lookup hfr.1) rfl with k' | k' <;> rw [show X.env.scope.names.lookup y = _ from k'] at k <;> cases k
    · rw [h2] at e'; cases e'
      exact ⟨c, h1, z.keeps kp⟩
  · have e : cenv.cells.lookup y = some c := e
    rcases mem e with ⟨h1, _⟩ | ⟨_, z⟩
    · obtain ⟨w, z⟩ := I.cell y c h1
      exact ⟨w, z.keeps kp⟩
    · exact ⟨_, z⟩
  · show H cenv.locals = none
    rw [hL]; exact I.hok.fresh (Nat.le_refl _)
  · have e : cenv.cells.lookup y = some c := e
    rcases mem e with ⟨h1, _⟩ | ⟨h1, _⟩
    · exact I.freeC y c h1
    · exact I.hok.fresh (Nat.le_of_succ_le h1)
  · exact absurd (show p ∈ ([] : List (Addr × Obj)) ++ [] from hp) (by simp)

/-- an item appended to a tracked list -/
theorem app_ok {E : Value → Shared → Prop} {D : Addr} {xs : List V} {y : V} {v : Value} {Q : Value → Shared → Prop} (I : Inv X pins σ H s) (hD : H D = some (.lst xs)) (hz : xs.length < sizeLine) (r : RelV y v)
    (h : ∀ s', Inv X pins σ (upd H D (.lst (xs ++ [y]))) s' → Q .none s') : wpAny (model X.prog X.w) X.A (call (.builtin "list.append") [.ref D, v]) Q E s := by
  obtain ⟨hz', its, n, ri, e⟩ := I.hok D _ hD
  have hl := ri.length
  refine append_at (hsz := by rw [List.size_toArray]; omega) e fun h' sb ho' => ?_
  refine h { s with heap := h' } (I.write (t' := s.toks) (by rw [hD]; trivial) (.inl rfl) (fun b u hb q => (sb.2 b hb).trans q) ⟨_, ho'⟩ ⟨by rw [List.length_append]; exact hz, its ++ [v], n + 1, ri.append (.cons r .nil), ?_⟩)
  rw [ho']
  simp

/-- a clause's tests -/
def PTs (X : Cx) (ifs : List Expr) (t : TT) : Prop :=
  ∀ (pins : List (Addr × Obj)) (s : Shared) (σ : St) (H : Hp) (Q : Bool → Hp → Prop), Inv X pins σ H s → t σ H Q →
    wpAny (model X.prog X.w) X.A (forIn ifs true fun c r => if r = true then do let ok ← isTrue c X.env (eval c X.env); pure (ForInStep.yield ok) else pure (ForInStep.yield r)) (TP X pins σ Q) X.xe s
def tYes : TT := fun _ H Q => Q true H
theorem pts_nil : PTs X [] tYes := fun _ _ _ H _ I h => wpAny_tests_nil ⟨H, I, h⟩
theorem pts_one {c : Expr} {t : TT} (h : PT X c t) : PTs X [c] t := fun pins s σ H Q I hw => wpAny_tests_one (h pins s σ H Q I hw)
end

theorem thnF {α : Type} {t : Sem α} {Q Q' : α → Shared → Prop} {M : Model} {A : Around} {E : Value → Shared → Prop} {s : Shared} (h : wpAny M A t Q (fun _ _ => False) s) (hQ : ∀ a s, Q a s → Q' a s) : wpAny M A t Q' E s := wpAny_mono h hQ fun _ _ z => False.elim z

/-- the loop of a list comprehension's block, the target of any form (codeAny_compLoop_tests asks a target that no tuple goes to; statement and proof follow it, PyProof/CompMap.lean:41-61, with the step letOwnedTupleGo kept) -/
theorem compLoop_any {prog : Program} {w : World} {A : Around} {R : Result → Shared → Prop} {s : Shared} {elt target iter : Expr} {ifs : List Expr} {scope : Scope} {pos : Pos} {it acc : Value} {env : Env} (I : Nat → Shared → Prop)
    (turn : ∀ n s, I n s → wpAny (model prog w) A (pyNext it) (fun r s₁ => match r with
      | none => R (.ok .next) s₁
      | some v => wpAny (model prog w) A (letOwnedTupleGo target it v) (fun _ s₁' => wpAny (model prog w) A (assign target env v) (fun _ s₂ =>
          wpAny (model prog w) A (forIn ifs true fun c r => if r = true then do let ok ← isTrue c env (eval c env); pure (ForInStep.yield ok) else pure (ForInStep.yield r)) (fun ok s₃ =>
            if ok = true then wpAny (model prog w) A (eval elt env) (fun x s₄ =>
              wpAny (model prog w) A (call (.builtin "list.append") [acc, x]) (fun _ s₅ => ∃ m, m < n ∧ I m s₅) (notedBy (model prog w) A env fun e s' => R (.error e) s') s₄) (notedBy (model prog w) A env fun e s' => R (.error e) s') s₃
            else ∃ m, m < n ∧ I m s₃) (notedBy (model prog w) A env fun e s' => R (.error e) s') s₂) (notedBy (model prog w) A env fun e s' => R (.error e) s') s₁') (notedBy (model prog w) A env fun e s' => R (.error e) s') s₁) (notedBy (model prog w) A env fun e s' => R (.error e) s') s)
    (n : Nat) (h : I n s) :
    codeAny (model prog w) A (.compLoop (.ListComp elt [⟨target, iter, ifs, 0⟩] scope pos) 0 it acc env) R s := by
  refine codeAny_loop rfl I (fun n s hI => ?_) n h
  show wpAny _ A ((compTurn (.ListComp elt [⟨target, iter, ifs, 0⟩] scope pos) 0 it acc env).onRaise (fun x => do noteFrame x env; theTreesLotGoes x)) _ _ s
  refine wpAny_noted ?_
  rw [compTurn_list]
  refine wpAny_bind (wpAny_standAt (wpAny_bind (wpAny_mono (turn n s hI) (fun r s₁ h₁ => ?_) fun _ _ h' => h')))
  cases r with
  | none => exact wpAny_pure h₁
  | some v =>
    refine wpAny_bind (wpAny_mono h₁ (fun _ s₁' h₁' => ?_) fun _ _ h' => h')
    refine wpAny_bind (wpAny_mono h₁' (fun _ s₂ h₂ => wpAny_bind (wpAny_mono h₂ (fun ok s₃ h₃ => ?_) fun _ _ h' => h')) fun _ _ h' => h')
    cases ok with
    | false => exact wpAny_pure ⟨rfl, h₃⟩
    | true =>
      exact wpAny_bind (wpAny_bind (wpAny_mono h₃ (fun x s₄ h₄ => wpAny_bind (wpAny_mono h₄ (fun _ s₅ h₅ => wpAny_pure (wpAny_pure ⟨rfl, h₅⟩)) fun _ _ h' => h')) fun _ _ h' => h'))

section
variable {X : Cx}
/-- [elt for target in iter if ..]: D the new list; W by the turn and a measure, Nx what a turn is to reach -/
def tLc (wi : TI) (g : TG) (tt : TT) (te : TE) (vs : List Nat) : TE := fun σ H Q => wi σ H fun J H1 => ∀ D, H1 D = none → ∃ W : Nat → Nat → Hp → Prop, (∃ m, W 0 m (upd H1 D (.lst []))) ∧ ∀ i m H, W i m H →
  (J.stop i H ∧ Q (.ref D) H) ∨ (J.go i H ∧ ∃ Nx : Hp → Prop, (∀ H', Nx H' → ∃ m', m' < m ∧ W (i + 1) m' H') ∧ ∀ x H', J.yld i H x H' → g x (wipe σ vs) H' fun σ2 H2 => wipe σ2 vs = wipe σ vs ∧ tt σ2 H2 fun b H3 =>
    if b = true then te σ2 H3 fun y H4 => ∃ acc, H4 D = some (.lst acc) ∧ acc.length < sizeLine ∧ Nx (upd H4 D (.lst (acc ++ [y]))) else Nx H3)
theorem lc_core {pins : List (Addr × Obj)} {s : Shared} {σ : St} {H : Hp} {Q : VK} {elt tg iter : Expr} {ifs : List Expr} {scope : Scope} {own : List (Str × Nat)} {pos pos' : Pos} {wi : TI} {g : TG} {tt : TT} {te : TE} {use : Option (Value → Sem Unit)} {Qf : Value → Shared → Prop}
    (hc : X.calm = true) (hN : X.N.Nodup) (I : Inv X pins σ H s) (hi : PI X tg iter wi) (ok : BlkOk X.N X.env.scope scope own)
    (hg : ∀ (s : Shared) (H : Hp) (C : Addr) (cl : List (Str × Addr)) (fp : List Addr), PG (X.blk s H scope (compEnvC scope cl C X.env) fp) tg g) (ht : ∀ (s : Shared) (H : Hp) (C : Addr) (cl : List (Str × Addr)) (fp : List Addr), PTs (X.blk s H scope (compEnvC scope cl C X.env) fp) ifs tt)
    (he : ∀ (s : Shared) (H : Hp) (C : Addr) (cl : List (Str × Addr)) (fp : List Addr), PE (X.blk s H scope (compEnvC scope cl C X.env) fp) elt te) (hs : ∀ x, foldedSetIterable iter X.env x = pure x)
    (h : tLc wi g tt te (own.map (·.2)) σ H Q)
    (hRR : ∀ D C s' m H', Inv X pins σ H' s' → Q (.ref D) H' → s'.heap.Ns C m → FpOk X pins H' C → compPost (model X.prog X.w) X.A X.xe use Qf (.ref D) C (.ok .next) s') :
    wpAny (model X.prog X.w) X.A (comprehension (.ListComp elt [⟨tg, iter, ifs, 0⟩] scope pos) scope X.env pos' (newList []) false (eval iter X.env) use) Qf X.xe s := by
  have hfree : ∀ y ∈ scope.names, y.2 = .free → ∃ c, X.env.cells.lookup y.1 = some c := fun y hy e => by
    rcases ok.free y hy e with k | k
    · exact I.ok.has _ (.inl k)
    · exact I.ok.has _ (.inr k)
  refine wpAny_comprehension_free (use := use) rfl hs (closure_ok hfree) ok.kind (fun y hy e => by rw [ok.uniq y hy, e])
    (thn (hi pins s σ H _ I h) fun xv s1 hx => thn hx fun itv s2 h2 => ?_)
  obtain ⟨it, fp, tn, J, H2, e, I2, T, st2, f2, q⟩ := h2
  subst e
  refine wpAny_newObj_type (newEnv_comp ?_) (by show 0 ≤ sizeLine; decide)
  generalize hD : s2.heap.objs.size = D
  have hDn : H2 D = none := I2.hok.fresh (Nat.le_of_eq hD)
  obtain ⟨W, ⟨m0, w0⟩, turn⟩ := q D hDn
  -- the new list
  generalize hs3 : ({ s2 with heap := s2.heap.push { cls := .type "list", data := .seq ([] : List Value).toArray } } : Shared) = s3
  have I3 : Inv X pins σ (upd H2 D (.lst [])) s3 := by
    rw [← hs3]
    refine I2.laid (t' := s2.toks) (fun b o e => Heap.get?_push_of_some _ e) (Nat.le_of_eq hD) ⟨Nat.zero_le _, [], 0, .nil, ?_⟩
    rw [← hD]
    exact Heap.get?_push_size _ rfl
  have h3 : s3.heap = s2.heap.push { cls := .type "list", data := .seq ([] : List Value).toArray } := by rw [← hs3]
  have sz : ∀ b ∈ fp, b < s2.heap.objs.size := fun b hb => by
    obtain ⟨o, e, _⟩ := T.obj _ _ st2 b hb
    exact Heap.lt_size e
  have f3 : ∀ b ∈ fp, FpOk X pins (upd H2 D (.lst [])) b ∧ b < s3.heap.objs.size := fun b hb => by
    have hlt := sz b hb
    refine ⟨⟨?_, (f2 b hb).2⟩, by rw [h3, Heap.size_push]; exact Nat.lt_succ_of_lt hlt⟩
    rw [upd_ne (by rw [← hD]; exact Nat.ne_of_lt hlt)]
    exact (f2 b hb).1
  have st3 : tn 0 s3.heap := T.keep _ _ _ st2 fun b _ o e => by rw [h3]; exact Heap.get?_push_of_some _ e
  have I4 := block_start I3 ok hN f3
  have pg := hg s3 (upd H2 D (.lst [])) s3.heap.objs.size (cellsFrom (s3.heap.objs.size + 1) scope.names (cloFrom X.env.cells scope.names [])) fp
  have pt := ht s3 (upd H2 D (.lst [])) s3.heap.objs.size (cellsFrom (s3.heap.objs.size + 1) scope.names (cloFrom X.env.cells scope.names [])) fp
  have pe := he s3 (upd H2 D (.lst [])) s3.heap.objs.size (cellsFrom (s3.heap.objs.size + 1) scope.names (cloFrom X.env.cells scope.names [])) fp
  show codeAny _ _ (.compStart (.ListComp elt [⟨tg, iter, ifs, 0⟩] scope pos) 0 (.ref it) (.ref D) (compEnvC scope (cellsFrom (s3.heap.objs.size + 1) scope.names (cloFrom X.env.cells scope.names [])) s3.heap.objs.size X.env)) (compPost (model X.prog X.w) X.A X.xe use Qf (.ref D) s3.heap.objs.size) { s3 with heap := pushCells (s3.heap.push { cls := .type "dict", data := .dict #[] }) scope.names }
  have nfp : ∀ b ∈ fp, (upd H2 D (.lst [])) b = none := fun b hb => (f3 b hb).1.1
  generalize hce : compEnvC scope (cellsFrom (s3.heap.objs.size + 1) scope.names (cloFrom X.env.cells scope.names [])) s3.heap.objs.size X.env = ce at I4 pg pt pe ⊢
  have cL : ce.locals = s3.heap.objs.size := by subst hce; rfl
  generalize hH3 : upd H2 D (.lst []) = H3 at I3 I4 pg pt pe w0 nfp f3
  generalize hs4 : ({ s3 with heap := pushCells (s3.heap.push { cls := .type "dict", data := .dict #[] }) scope.names } : Shared) = s4 at I4 ⊢
  have st4 : tn 0 s4.heap := T.keep _ _ _ st3 fun b _ o e => by rw [← hs4]; exact pushCells_keeps _ _ _ _ (Heap.get?_push_of_some _ e)
  have stat : ∀ {σ' : St} {H' : Hp} {s' : Shared}, Inv (X.blk s3 H3 scope ce fp) [] σ' H' s' → (∀ b ∈ fp, H' b = none) → ∀ b ∈ fp, FpOk (X.blk s3 H3 scope ce fp) [] H' b := fun {σ' H' s'} I' hn b hb =>
    ⟨hn b hb, (I'.ok.exf b hb).1, I'.ok.exfs b hb, .inl hb, fun x c e => (I'.ok.exf b hb).2 x c e, fun p hp => absurd (show p ∈ ([] : List (Addr × Obj)) ++ [] from hp) (by simp)⟩
  have loop : codeAny (model X.prog X.w) X.A (.compLoop (.ListComp elt [⟨tg, iter, ifs, 0⟩] scope pos) 0 (.ref it) (.ref D) ce) (compPost (model X.prog X.w) X.A X.xe use Qf (.ref D) s3.heap.objs.size) s4 := by
    refine compLoop_any (fun n s' => ∃ i H', Inv (X.blk s3 H3 scope ce fp) [] (wipe σ (own.map (·.2))) H' s' ∧ tn i s'.heap ∧ (∀ b ∈ fp, H' b = none) ∧ W i n H') ?_ m0 ⟨0, H3, I4, st4, nfp, w0⟩
    rintro n s5 ⟨i, H5, I5, st5, n5, w5⟩
    rcases turn i n H5 w5 with ⟨stop, qq⟩ | ⟨go, Nx, hNx, step⟩
    · have td := T.done (X.blk s3 H3 scope ce fp) rfl rfl rfl hc i [] s5 _ H5 (fun _ _ => False) I5 (stat I5 n5) st5 stop
      refine thnF td fun r s6 ⟨hr, I6⟩ => ?_
      subst hr
      -- back in the def's context
      have I7 : Inv X pins σ H5 s6 := I3.call' (ch := fp) I6.os I6.base I6.hok I6.bare fun b hb => ⟨(f3 b hb).1.2.2.2.1, (f3 b hb).1.2.1, (f3 b hb).1.2.2.2.2.1, (f3 b hb).1.2.2.2.2.2⟩
      have nC : H5 s3.heap.objs.size = none := by
        have z : H5 ce.locals = none := I6.free
        rw [cL] at z
        exact z
      obtain ⟨m, hn, _⟩ := I6.loc
      have hn : s6.heap.Ns ce.locals m := hn
      rw [cL] at hn
      exact hRR D s3.heap.objs.size s6 m H5 I7 qq hn (I3.fpOk (Nat.le_refl _) nC)
    · have ti := T.item (X.blk s3 H3 scope ce fp) rfl rfl rfl hc i [] s5 _ H5 (fun _ _ => False) I5 (stat I5 n5) st5 go
      refine thnF ti fun r s6 ⟨u, hr, h6⟩ => ?_
      subst hr
      refine thnF h6 fun _ s7 ⟨x, H7, I7, r7, y7, st7, n7⟩ => ?_
      have I7' := I7.pinned (stat I7 n7) (T.obj _ _ st7)
      refine thnF (pg _ s7 _ H7 x u _ I7' r7 (step x H7 y7)) fun _ s8 ⟨σ8, H8, I8, hw8, q8⟩ => ?_
      refine thnF (pt _ s8 σ8 H8 _ I8 q8) fun b s9 ⟨H9, I9, q9⟩ => ?_
      -- the turn's end
      have fin : ∀ {s' : Shared} {H' : Hp}, Inv (X.blk s3 H3 scope ce fp) ([] ++ pinsAt fp s7.heap) σ8 H' s' → Nx H' → ∃ m, m < n ∧ ∃ i H', Inv (X.blk s3 H3 scope ce fp) [] (wipe σ (own.map (·.2))) H' s' ∧ tn i s'.heap ∧ (∀ b ∈ fp, H' b = none) ∧ W i m H' := fun {s' H'} I' nx => by
        obtain ⟨m', hm, w'⟩ := hNx H' nx
        have pin' : ∀ b ∈ fp, ∀ o, s7.heap.get? b = some o → s'.heap.get? b = some o ∧ H' b = none := fun b hb o e =>
          let z := I'.pin (b, o) (List.mem_append_right _ (List.mem_append_right _ (mem_pinsAt hb e)))
          ⟨z.1, z.2.1⟩
        have hl : (wipe σ (own.map (·.2))).length = σ8.length := by rw [← hw8, wipe_length]
        refine ⟨m', hm, i + 1, H', (I'.unpinned (pins := [])).weak hl (fun j v e => ?_), T.keep _ _ _ st7 fun b hb o e => (pin' b hb o e).1, fun b hb => ?_, w'⟩
        · rw [← hw8] at e
          exact (wipe_some e).1
        · obtain ⟨o, e, _⟩ := T.obj _ _ st7 b hb
          exact (pin' b hb o e).2
      cases b with
      | false =>
        simp only [Bool.false_eq_true, if_false] at q9 ⊢
        exact fin I9 q9
      | true =>
        simp only [if_true] at q9 ⊢
        refine thnF (pe _ s9 σ8 H9 _ I9 q9) fun z s10 ⟨yv, H10, I10, r10, acc, hD10, hz10, nx⟩ => ?_
        exact app_ok (X := X.blk s3 H3 scope ce fp) I10 hD10 hz10 r10 fun s11 I11 => fin I11 nx
  exact codeAny_compStart_list loop (T.self X.A 0 _ _ _ st4 loop)
/-- as a value -/
theorem pe_lc {elt tg iter : Expr} {ifs : List Expr} {scope : Scope} {own : List (Str × Nat)} {pos : Pos} {wi : TI} {g : TG} {tt : TT} {te : TE} (hc : X.calm = true) (hN : X.N.Nodup) (hi : PI X tg iter wi) (ok : BlkOk X.N X.env.scope scope own)
    (hg : ∀ (s : Shared) (H : Hp) (C : Addr) (cl : List (Str × Addr)) (fp : List Addr), PG (X.blk s H scope (compEnvC scope cl C X.env) fp) tg g) (ht : ∀ (s : Shared) (H : Hp) (C : Addr) (cl : List (Str × Addr)) (fp : List Addr), PTs (X.blk s H scope (compEnvC scope cl C X.env) fp) ifs tt)
    (he : ∀ (s : Shared) (H : Hp) (C : Addr) (cl : List (Str × Addr)) (fp : List Addr), PE (X.blk s H scope (compEnvC scope cl C X.env) fp) elt te) (hs : ∀ x, foldedSetIterable iter X.env x = pure x := by intro _; rfl) :
    PE X (.ListComp elt [⟨tg, iter, ifs, 0⟩] scope pos) (tLc wi g tt te (own.map (·.2))) := by
  intro pins s σ H Q I h
  rw [eval_ListComp]
  refine lc_core hc hN I hi ok hg ht he hs h fun D C s' m H' I' q hn f => ⟨m, hn, fun h'' sb => ?_⟩
  obtain ⟨f0, f1, f2, f3, f4, f5⟩ := f
  exact ⟨.ref D, H', I'.turned (t' := s'.toks) (fun b o hb e => (sb.2 b hb).trans e) f0 f1 f3 f4 f5, rfl, q⟩
/-- name = [..] on one line, the name a local -/
theorem ps_setLc {i : Nat} {y : Str} {py : Pos} {elt tg iter : Expr} {ifs : List Expr} {scope : Scope} {own : List (Str × Nat)} {pos spos : Pos} {wi : TI} {g : TG} {tt : TT} {te : TE} (hc : X.calm = true) (hN : X.N.Nodup) (hy : X.N[i]? = some y) (hyl : X.env.scope.names.lookup y = some .local)
    (hsw : swapsWith (.ListComp elt [⟨tg, iter, ifs, 0⟩] scope pos) (some (.Name y py)) spos.line X.env = pure true) (hi : PI X tg iter wi) (ok : BlkOk X.N X.env.scope scope own)
    (hg : ∀ (s : Shared) (H : Hp) (C : Addr) (cl : List (Str × Addr)) (fp : List Addr), PG (X.blk s H scope (compEnvC scope cl C X.env) fp) tg g) (ht : ∀ (s : Shared) (H : Hp) (C : Addr) (cl : List (Str × Addr)) (fp : List Addr), PTs (X.blk s H scope (compEnvC scope cl C X.env) fp) ifs tt)
    (he : ∀ (s : Shared) (H : Hp) (C : Addr) (cl : List (Str × Addr)) (fp : List Addr), PE (X.blk s H scope (compEnvC scope cl C X.env) fp) elt te) (hs : ∀ x, foldedSetIterable iter X.env x = pure x := by intro _; rfl) :
    PS X (.Assign [.Name y py] (.ListComp elt [⟨tg, iter, ifs, 0⟩] scope pos) spos) (tAsg (tLc wi g tt te (own.map (·.2))) (gName i)) := by
  intro pins s σ H D I h
  rw [exec_Assign_Name_used _ _ _ _ hsw]
  refine wpAny_bind (wpAny_standAt (wpAny_bind ?_))
  show wpAny _ X.A (do let _ ← comprehension (.ListComp elt [⟨tg, iter, ifs, 0⟩] scope pos) scope X.env (firstIterPos [⟨tg, iter, ifs, 0⟩] pos) (newList []) false (eval iter X.env) (some (assign (.Name y py) X.env))) _ _ s
  have h : tLc wi g tt te (own.map (·.2)) σ H (fun x H1 => gName i x σ H1 D.nx) := h
  refine wpAny_bind (thn (lc_core (Qf := fun _ s' => SP X pins D .next s') hc hN I hi ok hg ht he hs h fun L C s' m H' I' q hn f => ?_) fun _ s' hq => wpAny_pure (wpAny_pure hq))
  show wpAny _ _ (assign (.Name y py) X.env (.ref L)) _ _ _
  refine wpAny_assign_Name (store_ok2 (v := V.ref L) I' hN hy (.inl hyl) rfl (fun s2 I2 ⟨a, sb, ha⟩ => ?_) (.inr hyl))
  obtain ⟨f0, f1, f2, f3, f4, f5⟩ := f
  have haC : C ≠ a := by
    rcases ha with z | z
    · rw [z]; exact f1
    · exact fun e => f4 y a z e.symm
  refine ⟨m, hn.sameBut sb haC, fun h3 sb3 => ?_⟩
  exact ⟨_, H', I2.turned (t' := s2.toks) (fun b o hb e => (sb3.2 b hb).trans e) f0 f1 f3 f4 f5, q⟩
theorem sw_true {elt : Expr} {gs : List Comprehension} {scope : Scope} {pos py : Pos} {y : Str} {l : Nat} {env : Env} (hk : env.scope.kind = .function) (hy : env.scope.names.lookup y = some .local) (hl : (py.line == pos.line) = true)
    (ha : (scope.names.any fun (n, k) => n == y && (k == .local || k == .cell)) = false) : swapsWith (.ListComp elt gs scope pos) (some (.Name y py)) l env = pure true := by
  have ky : env.kindOf y = some .local := hy
  have hb : env.blockKind = .function := by unfold Env.blockKind; rw [hk]; rfl
  unfold swapsWith
  simp only [hb, ky, ha, Expr.pos, hl]
  rfl
end

/-! ### the forms one uses -/
/-- over a range: Pv by the turn and the heap (the new list at D within) -/
theorem lc_range {lo : Int} {n : Nat} {g : TG} {tt : TT} {te : TE} {vs : List Nat} {σ : St} {H1 : Hp} {D : Addr} {Qd : Hp → Prop} (Pv : Nat → Hp → Prop) (h0 : Pv 0 (upd H1 D (.lst [])))
    (hs : ∀ i H, i < n → Pv i H → g (.int (lo + i)) (wipe σ vs) H fun σ2 H2 => wipe σ2 vs = wipe σ vs ∧ tt σ2 H2 fun b H3 =>
      if b = true then te σ2 H3 fun y H4 => ∃ acc, H4 D = some (.lst acc) ∧ acc.length < sizeLine ∧ Pv (i + 1) (upd H4 D (.lst (acc ++ [y]))) else Pv (i + 1) H3) (hd : ∀ H, Pv n H → Qd H) :
    ∃ W : Nat → Nat → Hp → Prop, (∃ m, W 0 m (upd H1 D (.lst []))) ∧ ∀ i m H, W i m H →
      ((Itr lo n).stop i H ∧ Qd H) ∨ ((Itr lo n).go i H ∧ ∃ Nx : Hp → Prop, (∀ H', Nx H' → ∃ m', m' < m ∧ W (i + 1) m' H') ∧ ∀ x H', (Itr lo n).yld i H x H' → g x (wipe σ vs) H' fun σ2 H2 => wipe σ2 vs = wipe σ vs ∧ tt σ2 H2 fun b H3 =>
        if b = true then te σ2 H3 fun y H4 => ∃ acc, H4 D = some (.lst acc) ∧ acc.length < sizeLine ∧ Nx (upd H4 D (.lst (acc ++ [y]))) else Nx H3) := by
  refine ⟨fun i m H => m = n - i ∧ i ≤ n ∧ Pv i H, ⟨n, by simp, Nat.zero_le _, h0⟩, ?_⟩
  rintro i m H ⟨rfl, hi, p⟩
  by_cases hlt : i < n
  · refine .inr ⟨hlt, Pv (i + 1), fun H' p' => ⟨n - (i + 1), by omega, rfl, hlt, p'⟩, fun x H' y => ?_⟩
    obtain ⟨e, y⟩ := y
    subst e y
    exact hs i _ hlt p
  · have e : i = n := by omega
    subst e
    exact .inl ⟨Nat.le_refl _, hd H p⟩
/-- over a list that the block leaves as it is -/
theorem lc_list {K : PySem.W.Frag} {a : Addr} {xs : List V} {g : TG} {tt : TT} {te : TE} {vs : List Nat} {σ : St} {H1 : Hp} {D : Addr} {Qd : Hp → Prop} (Pv : Nat → Hp → Prop) (h0 : Pv 0 (upd H1 D (.lst []))) (hl : ∀ i H, i ≤ xs.length → Pv i H → SqL K H a xs)
    (hs : ∀ i x H, xs[i]? = some x → Pv i H → g x (wipe σ vs) H fun σ2 H2 => wipe σ2 vs = wipe σ vs ∧ tt σ2 H2 fun b H3 =>
      if b = true then te σ2 H3 fun y H4 => ∃ acc, H4 D = some (.lst acc) ∧ acc.length < sizeLine ∧ Pv (i + 1) (upd H4 D (.lst (acc ++ [y]))) else Pv (i + 1) H3) (hd : ∀ H, Pv xs.length H → Qd H) :
    ∃ W : Nat → Nat → Hp → Prop, (∃ m, W 0 m (upd H1 D (.lst []))) ∧ ∀ i m H, W i m H →
      ((Itl K a).stop i H ∧ Qd H) ∨ ((Itl K a).go i H ∧ ∃ Nx : Hp → Prop, (∀ H', Nx H' → ∃ m', m' < m ∧ W (i + 1) m' H') ∧ ∀ x H', (Itl K a).yld i H x H' → g x (wipe σ vs) H' fun σ2 H2 => wipe σ2 vs = wipe σ vs ∧ tt σ2 H2 fun b H3 =>
        if b = true then te σ2 H3 fun y H4 => ∃ acc, H4 D = some (.lst acc) ∧ acc.length < sizeLine ∧ Nx (upd H4 D (.lst (acc ++ [y]))) else Nx H3) := by
  refine ⟨fun i m H => m = xs.length - i ∧ i ≤ xs.length ∧ Pv i H, ⟨xs.length, by simp, Nat.zero_le _, h0⟩, ?_⟩
  rintro i m H ⟨rfl, hi, p⟩
  have q := hl i H hi p
  by_cases hlt : i < xs.length
  · refine .inr ⟨⟨xs, xs[i], q, by simp [hlt]⟩, Pv (i + 1), fun H' p' => ⟨xs.length - (i + 1), by omega, rfl, hlt, p'⟩, fun x H' y => ?_⟩
    obtain ⟨e, y⟩ := y
    subst e
    exact hs i x _ (y xs q) p
  · have e : i = xs.length := by omega
    subst e
    exact .inl ⟨⟨xs, q, Nat.le_refl _⟩, hd H p⟩
def blkC (N : List Str) (sc scope : Scope) (own : List (Str × Nat)) : Bool :=
  (match scope.kind with | .function => true | _ => false) && (scope.names.all fun y => decide (scope.names.lookup y.1 = some y.2)) && (own.all fun p => decide (N[p.2]? = some p.1)) &&
    (scope.names.all fun y => match y.2 with
      | .free => (match sc.names.lookup y.1 with | some .cell => true | some .free => true | _ => false)
      | .local => decide (y.1 ∈ own.map (·.1)) || decide (y.1 ∉ N)
      | .cell => decide (y.1 ∈ own.map (·.1)) || decide (y.1 ∉ N)
      | _ => true)
theorem blkOk_by {N : List Str} {sc scope : Scope} {own : List (Str × Nat)} (h : blkC N sc scope own = true) : BlkOk N sc scope own := by
  unfold blkC at h
  simp only [Bool.and_eq_true, List.all_eq_true, decide_eq_true_eq] at h
  obtain ⟨⟨⟨h1, h2⟩, h3⟩, h4⟩ := h
  refine ⟨?_, h2, h3, fun y hy e => ?_, fun y hy e => ?_⟩
  · split at h1
    · assumption
    · cases h1
  · have q := h4 y hy
    simp only [e] at q
    split at q <;> first | exact .inl (by assumption) | exact .inr (by assumption) | cases q
  · have q := h4 y hy
    rcases e with e | e <;> (simp only [e, Bool.or_eq_true, decide_eq_true_eq] at q; exact q)
end L2

namespace L2
open PySem PySem.Spec PyProof.Rows

end L2

namespace L2
open PySem PySem.Spec PyProof.Rows

/-! ### lists of pairs as tables -/
section
variable {κ : Type} [DecidableEq κ]
def valV (kvs : List (κ × V)) (k : κ) : Option V := (kvs.find? fun kv => decide (kv.1 = k)).map (·.2)
/-- in its place, or at the end -/
def putK (kvs : List (κ × V)) (k : κ) (v : V) : List (κ × V) :=
  if (kvs.any fun kv => decide (kv.1 = k)) = true then kvs.map (fun kv => if kv.1 = k then (kv.1, v) else kv) else kvs ++ [(k, v)]

theorem valV_pos {p : κ × V} {r : List (κ × V)} {k : κ} (e : p.1 = k) : valV (p :: r) k = some p.2 := by simp [valV, List.find?_cons, e]
theorem valV_neg {p : κ × V} {r : List (κ × V)} {k : κ} (e : ¬ p.1 = k) : valV (p :: r) k = valV r k := by simp [valV, List.find?_cons, e]
theorem valV_any (k : κ) : ∀ kvs : List (κ × V), (kvs.any fun kv => decide (kv.1 = k)) = (valV kvs k).isSome
  | [] => rfl
  | p :: r => by
    rw [List.any_cons]
    by_cases e : p.1 = k
    · simp only [valV_pos e, decide_eq_true e, Bool.true_or, Option.isSome_some]
    · rw [valV_neg e, decide_eq_false e, Bool.false_or]; exact valV_any k r
theorem valV_map (k j : κ) (y : V) : ∀ kvs : List (κ × V), valV (kvs.map fun kv => if kv.1 = k then (kv.1, y) else kv) j = (valV kvs j).map fun x => if j = k then y else x
  | [] => rfl
  | p :: r => by
    have ih := valV_map k j y r
    rw [List.map_cons]
    by_cases h : p.1 = k
    · rw [if_pos h]
      by_cases e : p.1 = j
      · rw [valV_pos (p := (p.1, y)) e, valV_pos e, Option.map_some, if_pos (e.symm.trans h)]
      · rw [valV_neg (p := (p.1, y)) e, valV_neg e, ih]
    · rw [if_neg h]
      by_cases e : p.1 = j
      · rw [valV_pos (p := p) e, valV_pos e, Option.map_some, if_neg (fun z => h (e.trans z))]
      · rw [valV_neg (p := p) e, valV_neg e, ih]
theorem valV_snoc (k j : κ) (y : V) : ∀ kvs : List (κ × V), valV kvs k = none → valV (kvs ++ [(k, y)]) j = if j = k then some y else valV kvs j
  | [], _ => by
    by_cases e : k = j
    · rw [if_pos e.symm]; exact valV_pos (p := (k, y)) e
    · rw [if_neg (fun z => e z.symm)]; exact valV_neg (p := (k, y)) e
  | p :: r, hn => by
    rw [List.cons_append]
    have hk : ¬ p.1 = k := fun z => by rw [valV_pos z] at hn; cases hn
    rw [valV_neg hk] at hn
    have ih := valV_snoc k j y r hn
    by_cases e : p.1 = j
    · rw [valV_pos e, valV_pos e, if_neg (fun z => hk (e.trans z))]
    · rw [valV_neg e, valV_neg e, ih]
theorem valV_put (kvs : List (κ × V)) (k j : κ) (y : V) : valV (putK kvs k y) j = if j = k then some y else valV kvs j := by
  unfold putK
  by_cases a : (kvs.any fun kv => decide (kv.1 = k)) = true
  · rw [if_pos a, valV_map]
    rw [valV_any] at a
    by_cases e : j = k
    · obtain ⟨x, hx⟩ := Option.isSome_iff_exists.mp a
      rw [if_pos e, e, hx, Option.map_some, if_pos rfl]
    · rw [if_neg e]
      cases valV kvs j with
      | none => rfl
      | some x => rw [Option.map_some, if_neg e]
  · rw [if_neg a]
    refine valV_snoc k j y kvs ?_
    rw [valV_any] at a
    cases q : valV kvs k with
    | none => rfl
    | some x => rw [q] at a; exact (a rfl).elim
theorem length_putK (kvs : List (κ × V)) (k : κ) (v : V) : (putK kvs k v).length ≤ kvs.length + 1 := by
  unfold putK
  split
  · rw [List.length_map]; omega
  · rw [List.length_append, List.length_cons, List.length_nil]; omega
theorem putK_new {kvs : List (κ × V)} {k : κ} (v : V) (h : valV kvs k = none) : putK kvs k v = kvs ++ [(k, v)] := by
  unfold putK
  rw [valV_any, h]
  exact if_neg (by decide)

theorem RelO.isSome_eq {o : Option V} {u : Option Value} (r : RelO o u) : o.isSome = u.isSome := by
  cases o with
  | none => cases u with
    | none => rfl
    | some _ => exact (show False from r).elim
  | some _ => cases u with
    | none => exact (show False from r).elim
    | some _ => rfl
theorem RelO.getD {o : Option V} {u : Option Value} {d : V} {d' : Value} (r : RelO o u) (rd : RelV d d') : RelV (o.getD d) (u.getD d') := by
  cases o with
  | none => cases u with
    | none => exact rd
    | some _ => exact (show False from r).elim
  | some _ => cases u with
    | none => exact (show False from r).elim
    | some _ => exact r

/-- raw tables of the same keys -/
theorem KV.val {kvs : List (κ × V)} {vs : List (κ × Value)} (r : KV kvs vs) (k : κ) : RelO (valV kvs k) (valueAt vs k) := by
  unfold KV at r
  induction r with
  | nil => exact True.intro
  | @cons p q ps qs h t ih =>
    obtain ⟨h1, h2⟩ := h
    by_cases e : p.1 = k
    · have e' : q.1 = k := h1.symm.trans e
      have b : valueAt (q :: qs) k = some q.2 := by simp [valueAt, List.find?_cons, e']
      rw [valV_pos e, b]; exact h2
    · have e' : ¬ q.1 = k := fun z => e (h1.trans z)
      have b : valueAt (q :: qs) k = valueAt qs k := by simp [valueAt, List.find?_cons, e']
      rw [valV_neg e, b]; exact ih
theorem KV.any {kvs : List (κ × V)} {vs : List (κ × Value)} (r : KV kvs vs) (k : κ) : (kvs.any fun kv => decide (kv.1 = k)) = vs.any fun kv => decide (kv.1 = k) := by
  unfold KV at r
  induction r with
  | nil => rfl
  | cons h t ih => rw [List.any_cons, List.any_cons, ih, h.1]
theorem KV.repl {kvs : List (κ × V)} {vs : List (κ × Value)} (r : KV kvs vs) (k : κ) {y : V} {u : Value} (ry : RelV y u) :
    KV (kvs.map fun kv => if kv.1 = k then (kv.1, y) else kv) (vs.map fun kv => if kv.1 = k then (kv.1, u) else kv) := by
  unfold KV at r ⊢
  induction r with
  | nil => exact .nil
  | @cons p q ps qs h t ih =>
    rw [List.map_cons, List.map_cons]
    refine .cons ?_ ih
    obtain ⟨h1, h2⟩ := h
    by_cases e : p.1 = k
    · rw [if_pos e, if_pos (h1.symm.trans e)]; exact ⟨h1, ry⟩
    · rw [if_neg e, if_neg (fun z => e (h1.trans z))]; exact ⟨h1, h2⟩
theorem KV.put {kvs : List (κ × V)} {vs : List (κ × Value)} (r : KV kvs vs) (k : κ) {y : V} {u : Value} (ry : RelV y u) : KV (putK kvs k y) (stored vs k u) := by
  unfold putK stored
  rw [r.any k]
  by_cases e : (vs.any fun kv => decide (kv.1 = k)) = true
  · rw [if_pos e, if_pos e]; exact r.repl k ry
  · rw [if_neg e, if_neg e]; exact Paired.snoc r ⟨rfl, ry⟩
theorem KV.length {kvs : List (κ × V)} {vs : List (κ × Value)} (r : KV kvs vs) : kvs.length = vs.length := Paired.length r
end

/-! ### a tracked dict, its keys ints and texts or tuples of these -/
theorem kV_is {P : Program} {w : World} {k : Key} {u : Value} (r : RelV (kV k) u) : (mixKind P w).is k u = true := by
  cases k with
  | inl i => obtain ⟨t, e⟩ := (show ∃ t, u = Value.int i t from r); subst e; exact mixKind_int P w i t
  | inr x => obtain ⟨t, e⟩ := (show ∃ t, u = Value.str x t from r); subst e; exact mixKind_str P w x t
theorem items_are {P : Program} {w : World} : ∀ {ks : List Key} {us : List Value}, Vals (ks.map kV) us → ItemsAre (mixKind P w) ks us
  | [], _, r => by rw [List.map_nil] at r; cases r; exact .nil
  | k :: ks, _, r => by
    rw [List.map_cons] at r
    cases r with
    | cons h t => exact .cons (kV_is h) (items_are t)

/-- raw entries of a dict with tuple keys -/
abbrev KT (H : Hp) : List (List Key × V) → List (List Key × Addr × Value) → Prop := Paired fun p q => p.1 = q.1 ∧ H q.2.1 = some (.tup (p.1.map kV)) ∧ RelV p.2 q.2.2
theorem KT.val {H : Hp} {kvs : List (List Key × V)} {xs : List (List Key × Addr × Value)} (r : KT H kvs xs) (k : List Key) : RelO (valV kvs k) ((atKey xs k).map (·.2)) := by
  induction r with
  | nil => exact True.intro
  | @cons p q ps qs h t ih =>
    obtain ⟨h1, _, h2⟩ := h
    by_cases e : p.1 = k
    · have e' : q.1 = k := h1.symm.trans e
      have b : atKey (q :: qs) k = some q.2 := by simp [atKey, List.find?_cons, e']
      rw [valV_pos e, b]; exact h2
    · have e' : ¬ q.1 = k := fun z => e (h1.trans z)
      have b : atKey (q :: qs) k = atKey qs k := by simp [atKey, List.find?_cons, e']
      rw [valV_neg e, b]; exact ih
theorem KT.repl {H : Hp} {kvs : List (List Key × V)} {xs : List (List Key × Addr × Value)} (r : KT H kvs xs) (k : List Key) {y : V} {u : Value} (ry : RelV y u) :
    KT H (kvs.map fun kv => if kv.1 = k then (kv.1, y) else kv) (xs.map (putAt k u)) := by
  induction r with
  | nil => exact .nil
  | @cons p q ps qs h t ih =>
    rw [List.map_cons, List.map_cons]
    refine .cons ?_ ih
    obtain ⟨h1, h2, h3⟩ := h
    unfold putAt
    by_cases e : p.1 = k
    · rw [if_pos e, if_pos (h1.symm.trans e)]; exact ⟨h1, h2, ry⟩
    · rw [if_neg e, if_neg (fun z => e (h1.trans z))]; exact ⟨h1, h2, h3⟩
theorem KT.put {H : Hp} {kvs : List (List Key × V)} {xs : List (List Key × Addr × Value)} (r : KT H kvs xs) (k : List Key) {b : Addr} {y : V} {u : Value} (hb : H b = some (.tup (k.map kV))) (ry : RelV y u) :
    KT H (putK kvs k y) (storedH xs k b u) := by
  have e : (kvs.any fun kv => decide (kv.1 = k)) = (atKey xs k).isSome := by
    rw [valV_any, (r.val k).isSome_eq, Option.isSome_map]
  unfold putK storedH
  rw [e]
  by_cases q : (atKey xs k).isSome = true
  · rw [if_pos q, if_pos q]; exact r.repl k ry
  · rw [if_neg q, if_neg q]; exact Paired.snoc r ⟨rfl, hb, ry⟩
theorem KT.keeps {H H' : Hp} {kvs : List (List Key × V)} {xs : List (List Key × Addr × Value)} (r : KT H kvs xs) (ht : ∀ b ys, H b = some (.tup ys) → H' b = some (.tup ys)) : KT H' kvs xs :=
  Paired.mapP r fun _ _ z => ⟨z.1, ht _ _ z.2.1, z.2.2⟩

section
variable {P : Program} {w : World} {H : Hp} {h : Heap} {a : Addr}
theorem rd_of {u : HO} (ok : HOk P w H h) (e : Rd H a u) : ObjOk P w H h a u := e.ok ok
theorem dk_rd {kvs : List (Key × V)} (ok : HOk P w H h) (e : Rd H a (.dK kvs)) : kvs.length ≤ sizeLine ∧ (a == sysModules) = false ∧ ∃ vs, KV kvs vs ∧ h.DictOf (mixKind P w) a vs :=
  show ObjOk P w H h a (.dK kvs) from rd_of ok e
theorem dk_of {kvs : List (Key × V)} (ok : HOk P w H h) (e : H a = some (.dK kvs)) : kvs.length ≤ sizeLine ∧ (a == sysModules) = false ∧ ∃ vs, KV kvs vs ∧ h.DictOf (mixKind P w) a vs := dk_rd ok (.inl e)
/-- a tracked tuple of ints and texts is a key -/
theorem key_of {ks : List Key} (ok : HOk P w H h) (e : H a = some (.tup (ks.map kV))) : (tupleKind (mixKind P w)).is h ks a := by
  obtain ⟨_, its, r, o, h1, h2, n, h3⟩ := (show ObjOk P w H h a (.tup (ks.map kV)) from ok a _ e)
  exact ⟨o, its.toArray, n, h1, h2, h3, by simpa using items_are r⟩
theorem dt_rd {kvs : List (List Key × V)} (ok : HOk P w H h) (e : Rd H a (.dT kvs)) : kvs.length ≤ sizeLine ∧ (a == sysModules) = false ∧
    ∃ xs, KT H kvs xs ∧ h.DictOfH (tupleKind (mixKind P w)) a xs := by
  obtain ⟨z, y, xs, r, o, es, ep, h1, h2, h3, h4, h5⟩ := (show ObjOk P w H h a (.dT kvs) from rd_of ok e)
  refine ⟨z, y, xs, r, o, es, ep, h1, h2, h3, h4, fun x hx => ?_, h5⟩
  have all : ∀ {l : List (List Key × V)} {m : List (List Key × Addr × Value)}, KT H l m → ∀ x ∈ m, (tupleKind (mixKind P w)).is h x.1 x.2.1 := by
    intro l m q
    induction q with
    | nil => intro x hx; exact nomatch hx
    | @cons p q ps qs hq t ih =>
      intro x hx
      rcases List.mem_cons.mp hx with e | hx
      · subst e
        exact key_of ok (by rw [← hq.1]; exact hq.2.1)
      · exact ih x hx
  exact all r x hx
theorem dt_of {kvs : List (List Key × V)} (ok : HOk P w H h) (e : H a = some (.dT kvs)) : kvs.length ≤ sizeLine ∧ (a == sysModules) = false ∧
    ∃ xs, KT H kvs xs ∧ h.DictOfH (tupleKind (mixKind P w)) a xs := dt_rd ok (.inl e)
end

/-- what the dict at a holds at the key y -/
def DGet (H : Hp) (a : Addr) (y : V) (r : Option V) : Prop :=
  (∃ kvs k, Rd H a (.dK kvs) ∧ y = kV k ∧ r = valV kvs k) ∨ ∃ kvs k b, Rd H a (.dT kvs) ∧ y = .ref b ∧ H b = some (.tup (k.map kV)) ∧ r = valV kvs k
/-- the heap behind a[y] = v -/
def DPut (H : Hp) (a : Addr) (y v : V) (H' : Hp) : Prop :=
  (∃ kvs k, H a = some (.dK kvs) ∧ y = kV k ∧ kvs.length < sizeLine ∧ H' = upd H a (.dK (putK kvs k v))) ∨
  ∃ kvs k b, H a = some (.dT kvs) ∧ y = .ref b ∧ H b = some (.tup (k.map kV)) ∧ kvs.length < sizeLine ∧ H' = upd H a (.dT (putK kvs k v))
theorem DGet.k {H : Hp} {a : Addr} {kvs : List (Key × V)} {k : Key} (e : H a = some (.dK kvs)) : DGet H a (kV k) (valV kvs k) := .inl ⟨kvs, k, .inl e, rfl, rfl⟩
theorem DGet.t {H : Hp} {a b : Addr} {kvs : List (List Key × V)} {k : List Key} (e : H a = some (.dT kvs)) (eb : H b = some (.tup (k.map kV))) : DGet H a (.ref b) (valV kvs k) := .inr ⟨kvs, k, b, .inl e, rfl, eb, rfl⟩
theorem DPut.k {H : Hp} {a : Addr} {kvs : List (Key × V)} {k : Key} {v : V} (e : H a = some (.dK kvs)) (hl : kvs.length < sizeLine) : DPut H a (kV k) v (upd H a (.dK (putK kvs k v))) := .inl ⟨kvs, k, e, rfl, hl, rfl⟩
theorem DPut.t {H : Hp} {a b : Addr} {kvs : List (List Key × V)} {k : List Key} {v : V} (e : H a = some (.dT kvs)) (eb : H b = some (.tup (k.map kV))) (hl : kvs.length < sizeLine) :
    DPut H a (.ref b) v (upd H a (.dT (putK kvs k v))) := .inr ⟨kvs, k, b, e, rfl, eb, hl, rfl⟩

section
variable {X : Cx} {pins : List (Addr × Obj)} {σ : St} {H : Hp} {s : Shared} {a : Addr} {y v : V} {u r : Value} {o : Option V} {A : Around} {E : Value → Shared → Prop}

theorem Inv.big (I : Inv X pins σ H s) : sysModules < s.heap.objs.size := by
  have h : mainGlobals < s.heap.objs.size := (I.mod.glob.keeps I.bk).lt
  exact Nat.lt_trans (by decide) h

/-- d[y], there -/
theorem d_getItem {Q : Value → Shared → Prop} (hu : A.units + 1 < cLine) (I : Inv X pins σ H s) (g : DGet H a y (some v)) (ry : RelV y u) (h : ∀ w' s', Inv X pins σ H s' → RelV v w' → Q w' s') :
    wpAny (model X.prog X.w) A (getItem (.ref a) u) Q E s := by
  rcases g with ⟨kvs, k, e, ey, l⟩ | ⟨kvs, k, b, e, ey, eb, l⟩
  · subst ey
    obtain ⟨z, hd, vs, rel, dd⟩ := dk_rd I.hok e
    obtain ⟨w', hw, rw'⟩ := RelO.some_of (v := v) (o := valueAt vs k) (by rw [l]; exact rel.val k)
    exact wpAny_getItem_of (kV_is ry) dd.mapOf hw (h w' _ (I.tok _) rw')
  · subst ey
    cases (show u = Value.ref b from ry)
    obtain ⟨z, hd, xs, rel, dd⟩ := dt_rd I.hok e
    obtain ⟨w', hw, rw'⟩ := RelO.some_of (v := v) (o := (atKey xs k).map (·.2)) (by rw [l]; exact rel.val k)
    obtain ⟨p, hp, hp2⟩ := Option.map_eq_some_iff.mp hw
    refine wpAny_getItem_heap (tupleKind_room_in1 hu) (key_of I.hok eb) dd hp ?_
    rw [hp2]
    exact h w' _ (I.tok _) rw'
/-- y in d -/
theorem d_in {Q : Value → Shared → Prop} (hu : A.units + 1 < cLine) (I : Inv X pins σ H s) (g : DGet H a y o) (ry : RelV y u) (h : ∀ s', Inv X pins σ H s' → Q (.bool o.isSome) s') :
    wpAny (model X.prog X.w) A (compareOp .In u (.ref a)) Q E s := by
  rcases g with ⟨kvs, k, e, ey, l⟩ | ⟨kvs, k, b, e, ey, eb, l⟩
  · subst ey
    obtain ⟨z, hd, vs, rel, dd⟩ := dk_rd I.hok e
    refine wpAny_in_of (kV_is ry) hd dd.mapOf ?_
    rw [← (rel.val k).isSome_eq, ← l]
    exact h _ (I.tok _)
  · subst ey
    cases (show u = Value.ref b from ry)
    obtain ⟨z, hd, xs, rel, dd⟩ := dt_rd I.hok e
    refine wpAny_in_heap (tupleKind_room_in1 hu) (key_of I.hok eb) hd dd ?_
    have q := (rel.val k).isSome_eq
    rw [Option.isSome_map] at q
    rw [← q, ← l]
    exact h _ (I.tok _)
theorem d_notIn {Q : Value → Shared → Prop} (hu : A.units + 1 < cLine) (I : Inv X pins σ H s) (g : DGet H a y o) (ry : RelV y u) (h : ∀ s', Inv X pins σ H s' → Q (.bool (!o.isSome)) s') :
    wpAny (model X.prog X.w) A (compareOp .NotIn u (.ref a)) Q E s := by
  rcases g with ⟨kvs, k, e, ey, l⟩ | ⟨kvs, k, b, e, ey, eb, l⟩
  · subst ey
    obtain ⟨z, hd, vs, rel, dd⟩ := dk_rd I.hok e
    refine wpAny_notIn_of (kV_is ry) hd dd.mapOf ?_
    rw [← (rel.val k).isSome_eq, ← l]
    exact h _ (I.tok _)
  · subst ey
    cases (show u = Value.ref b from ry)
    obtain ⟨z, hd, xs, rel, dd⟩ := dt_rd I.hok e
    refine wpAny_notIn_heap (tupleKind_room_in1 hu) (key_of I.hok eb) hd dd ?_
    have q := (rel.val k).isSome_eq
    rw [Option.isSome_map] at q
    rw [← q, ← l]
    exact h _ (I.tok _)
/-- a dict's object is replaced -/
theorem d_write {h' : Heap} {t' : Nat} {ob : HO} (I : Inv X pins σ H s) (mu : Mut (H a)) (hs : Heap.SameBut a s.heap h') (he : ∃ q, h'.get? a = some q) (new : ObjOk X.prog X.w (upd H a ob) h' a ob) :
    Inv X pins σ (upd H a ob) { s with heap := h', toks := t' } :=
  I.write (x := a) (e := a) mu (.inl rfl) (fun b q hb z => (hs.2 b hb).trans z) he new
theorem dk_new {P : Program} {w : World} {H' : Hp} {h' : Heap} {kvs : List (Key × V)} {vs : List (Key × Value)} (z : kvs.length ≤ sizeLine) (hd : (a == sysModules) = false) (rel : KV kvs vs) (dd : h'.DictOf (mixKind P w) a vs) :
    ObjOk P w H' h' a (.dK kvs) := ⟨z, hd, vs, rel, dd⟩
/-- d[y] = v -/
theorem d_setItem {H' : Hp} {Q : Unit → Shared → Prop} (hu : A.units + 1 < cLine) (I : Inv X pins σ H s) (g : DPut H a y v H') (ry : RelV y u) (rv : RelV v r) (h : ∀ s', Inv X pins σ H' s' → Q () s') :
    wpAny (model X.prog X.w) A (setItem (.ref a) u r) Q E s := by
  rcases g with ⟨kvs, k, e, ey, l, eH⟩ | ⟨kvs, k, b, e, ey, eb, l, eH⟩
  · subst ey eH
    obtain ⟨z, hd, vs, rel, dd⟩ := dk_of I.hok e
    have hz : vs.length ≤ sizeLine := by rw [← rel.length]; exact z
    have hl : (putK kvs k v).length ≤ sizeLine := by have := length_putK kvs k v; omega
    refine wpAny_setItem_pairs (hsz := hz) (kV_is ry) dd fun h' dd' hs => h _ ?_
    have he : ∃ q, h'.get? a = some q := let ⟨q, _, _, hq, _⟩ := dd'; ⟨q, hq⟩
    exact d_write I (by rw [e]; exact True.intro) hs he (dk_new hl hd (rel.put k rv) dd')
  · subst ey eH
    cases (show u = Value.ref b from ry)
    obtain ⟨z, hd, xs, rel, dd⟩ := dt_of I.hok e
    have hz : xs.length ≤ sizeLine := by rw [← Paired.length rel]; exact z
    have hl : (putK kvs k v).length ≤ sizeLine := by have := length_putK kvs k v; omega
    refine wpAny_setItem_heap (hsz := hz) (tupleKind_room_in1 hu) (key_of I.hok eb) dd fun h' dd' hs => h _ ?_
    obtain ⟨q, es, ep, hq, h2, h3, h4, _, h5⟩ := dd'
    refine d_write I (by rw [e]; exact True.intro) hs ⟨q, hq⟩ ⟨hl, hd, _, (rel.put k eb rv).keeps fun c ys ec => ?_, q, es, ep, hq, h2, h3, h4, h5⟩
    rw [upd_ne (ne_of ec e (fun z => nomatch z))]
    exact ec
end

/-! ### readings and rules -/
/-- the element of a subscription, not a slice -/
def NoSl (i : Expr) : Prop := ∀ ov iv, subscripted i false ov iv = operate [ov, iv] (getItem ov iv)
theorem subD_of {prog : Program} {w : World} {A : Around} {E : Value → Shared → Prop} {s : Shared} {env : Env} {value slice : Expr} {pos : Pos} {T id : String} {Q : Value → Shared → Prop}
    (hl : typeLookup (.type T) "__getitem__" = pure (some (.builtin id))) (hs : NoSl slice)
    (h : wpAny (model prog w) A (eval value env) (fun o s₁ => wpAny (model prog w) A (eval slice env) (fun i s₂ => s₂.TypeIs o T ∧ wpAny (model prog w) A (getItem o i) Q E s₂) E s₁) E s) :
    wpAny (model prog w) A (eval (.Subscript value slice pos) env) Q E s := by
  refine Subscript_ (wpAny_mono h (fun o s₁ h₁ => wpAny_mono h₁ (fun i s₂ h₂ => ?_) fun _ _ x => x) fun _ _ x => x)
  obtain ⟨hT, h₂⟩ := h₂
  unfold subscriptTail
  refine wpAny_bind ?_
  rw [getitemInPython_of_ne hT.not_modules]
  refine wpAny_bind (wpAny_specialOf hT hl ?_)
  have fin : wpAny (model prog w) A (subscripted slice false o i) (fun r s₃ => wpAny (model prog w) A (letTemporaryGo value o r >>= fun _ => pure r) Q E s₃) E s₂ := by
    rw [hs o i]
    exact wpAny_operating (wpAny_mono h₂ (fun r s₃ h₃ => wpAny_bind (wpAny_letTemporaryGo (wpAny_pure h₃))) fun _ _ x => x)
  first
    | exact wpAny_pure (wpAny_bind fin)
    | exact wpAny_bind (wpAny_pure (wpAny_bind fin))
    | exact wpAny_bind fin

theorem dict_typeIs {X : Cx} {pins : List (Addr × Obj)} {σ : St} {H : Hp} {s : Shared} {a : Addr} {y : V} {o : Option V} (I : Inv X pins σ H s) (g : DGet H a y o) : s.TypeIs (.ref a) "dict" := by
  rcases g with ⟨kvs, k, e, _, _⟩ | ⟨kvs, k, b, e, _, _, _⟩
  · obtain ⟨_, _, vs, _, dd⟩ := dk_rd I.hok e
    exact dd.typeIs
  · obtain ⟨_, _, xs, _, dd⟩ := dt_rd I.hok e
    exact dd.typeIs

/-- d[y] -/
def tDGet (td ty : TE) : TE := fun σ H Q => td σ H fun x H1 => ty σ H1 fun y H2 => ∃ a v, x = .ref a ∧ DGet H2 a y (some v) ∧ Q v H2
/-- y in d, y not in d -/
def tDIn (ty td : TE) : TE := fun σ H Q => ty σ H fun y H1 => td σ H1 fun x H2 => ∃ a o, x = .ref a ∧ DGet H2 a y o ∧ Q (.bl o.isSome) H2
def tDNotIn (ty td : TE) : TE := fun σ H Q => ty σ H fun y H1 => td σ H1 fun x H2 => ∃ a o, x = .ref a ∧ DGet H2 a y o ∧ Q (.bl (!o.isSome)) H2
/-- d[y] = v -/
def sDPut (td ty tv : TE) : TS := fun D σ H => tv σ H fun v H1 => td σ H1 fun x H2 => ty σ H2 fun y H3 => ∃ a H4, x = .ref a ∧ DPut H3 a y v H4 ∧ D.nx σ H4

section
variable {X : Cx} {o i e value : Expr} {pos pos' tpos : Pos} {td ty tv : TE}
theorem pe_dget (hu : X.A.units + 1 < cLine) (ho : PE X o td) (hi : PE X i ty) (hs : NoSl i) : PE X (.Subscript o i pos) (tDGet td ty) := by
  intro pins s σ H Q I h
  refine subD_of PySem.F.slot_dict_getitem.lookup hs (thn (ho pins s σ H _ I h) fun u s1 ⟨x, H1, I1, rx, q1⟩ => thn (hi pins s1 σ H1 _ I1 q1) fun iv s2 ⟨y, H2, I2, ry, a, v, ex, g, q2⟩ => ?_)
  subst ex
  obtain rfl : u = Value.ref a := rx
  exact ⟨dict_typeIs I2 g, d_getItem hu I2 g ry fun w' s3 I3 rw' => ⟨v, H2, I3, rw', q2⟩⟩
theorem pc_din (hu : X.A.units + 1 < cLine) (hi : PE X i ty) (ho : PE X o td) : PC X .In i o (tDIn ty td) := by
  intro pins s σ H Q I h
  refine thn (hi pins s σ H _ I h) fun iv s1 ⟨y, H1, I1, ry, q1⟩ => thn (ho pins s1 σ H1 _ I1 q1) fun u s2 ⟨x, H2, I2, rx, a, ov, ex, g, q2⟩ => ?_
  subst ex
  obtain rfl : u = Value.ref a := rx
  exact d_in hu I2 g ry fun s3 I3 => ⟨.bl ov.isSome, H2, I3, rfl, q2⟩
theorem pc_dnotin (hu : X.A.units + 1 < cLine) (hi : PE X i ty) (ho : PE X o td) : PC X .NotIn i o (tDNotIn ty td) := by
  intro pins s σ H Q I h
  refine thn (hi pins s σ H _ I h) fun iv s1 ⟨y, H1, I1, ry, q1⟩ => thn (ho pins s1 σ H1 _ I1 q1) fun u s2 ⟨x, H2, I2, rx, a, ov, ex, g, q2⟩ => ?_
  subst ex
  obtain rfl : u = Value.ref a := rx
  exact d_notIn hu I2 g ry fun s3 I3 => ⟨.bl (!ov.isSome), H2, I3, rfl, q2⟩
theorem ps_dput (hu : X.A.units + 1 < cLine) (ho : PE X o td) (hi : PE X i ty) (hv : PE X value tv) (hs : swapsWith value (some (.Subscript o i pos')) pos.line X.env = pure false) :
    PS X (.Assign [.Subscript o i pos'] value pos) (sDPut td ty tv) := by
  intro pins s σ H D I h
  refine wpAny_Assign_Subscript (thn (hv pins s σ H _ I h) fun r s1 ⟨v, H1, I1, rv, q1⟩ => thn (ho pins s1 σ H1 _ I1 q1) fun u s2 ⟨x, H2, I2, rx, q2⟩ => thn (hi pins s2 σ H2 _ I2 q2) fun iv s3 ⟨y, H3, I3, ry, a, H4, ex, g, q3⟩ => ?_) hs
  subst ex
  obtain rfl : u = Value.ref a := rx
  exact d_setItem hu I3 g ry rv fun s4 I4 => ⟨σ, H4, I4, q3⟩
end

/-! ### displays -/
theorem dk_empty {P : Program} {w : World} {H : Hp} (h : Heap) (hb : sysModules < h.objs.size) : ObjOk P w H (h.push { cls := .type "dict", data := .dict #[] }) h.objs.size (.dK []) :=
  ⟨Nat.zero_le _, beq_eq_false_iff_ne.mpr (Ne.symm (Nat.ne_of_lt hb)), [], .nil, Heap.DictOf.new h⟩
theorem dt_empty {P : Program} {w : World} {H : Hp} (h : Heap) (hb : sysModules < h.objs.size) : ObjOk P w H (h.push { cls := .type "dict", data := .dict #[] }) h.objs.size (.dT []) :=
  ⟨Nat.zero_le _, beq_eq_false_iff_ne.mpr (Ne.symm (Nat.ne_of_lt hb)), [], .nil, _, #[], 0, Heap.get?_push_size _ rfl, ⟨rfl, rfl, rfl⟩, rfl, rfl, List.nodup_nil⟩
/-- {}, to be a dict of the kind that is wanted -/
def tDNewK : TE := fun _ H Q => ∀ p, H p = none → Q (.ref p) (upd H p (.dK []))
def tDNewT : TE := fun _ H Q => ∀ p, H p = none → Q (.ref p) (upd H p (.dT []))
section
variable {X : Cx} {pos : Pos}
theorem pe_dnewK : PE X (.Dict [] [] pos) tDNewK := fun pins s σ H Q I h =>
  wpAny_Dict_empty ⟨.ref s.heap.objs.size, _, I.laid (a := s.heap.objs.size) (o := .dK []) (t' := s.toks) (fun _ _ q => Heap.get?_push_of_some _ q) (Nat.le_refl _) (dk_empty s.heap I.big), rfl, h _ (I.hok.fresh (Nat.le_refl _))⟩
theorem pe_dnewT : PE X (.Dict [] [] pos) tDNewT := fun pins s σ H Q I h =>
  wpAny_Dict_empty ⟨.ref s.heap.objs.size, _, I.laid (a := s.heap.objs.size) (o := .dT []) (t' := s.toks) (fun _ _ q => Heap.get?_push_of_some _ q) (Nat.le_refl _) (dt_empty s.heap I.big), rfl, h _ (I.hok.fresh (Nat.le_refl _))⟩
end

/-! ### methods -/
structure M2 (X : Cx) (o : Expr) (m : Str) (apos : Pos) (e f : Expr) (cpos : Pos) : Prop where
  base : attributeBase o m X.env (eval o X.env) = eval o X.env
  few : ((backTo cpos (starEach [e, f] X.env)).all (fun x => !x.1) && (backToKw cpos (keywordEach [] X.env)).all (fun x => x.1.isSome)
    && decide (([e, f] : List Expr).length + ([] : List Keyword).length + (if ([] : List Keyword).isEmpty then 0 else 1) < 30)) = true
  line : (apos.endLine == cpos.line) = true
  trees : backTo cpos (starEach [e, f] X.env) = [(false, eval e X.env), (false, eval f X.env)]

/-- a is a dict, whatever its keys -/
def IsD (H : Hp) (a : Addr) : Prop := (∃ kvs, Rd H a (.dK kvs)) ∨ ∃ kvs, Rd H a (.dT kvs)
theorem isD_at {X : Cx} {pins : List (Addr × Obj)} {σ : St} {H : Hp} {s : Shared} {a : Addr} (I : Inv X pins σ H s) (d : IsD H a) :
    s.TypeIs (.ref a) "dict" ∧ (∀ b, Value.ref a = .ref b → ∃ ob, s.heap.get? b = some ob ∧ ob.dict = none) ∧ (a == sysModules) = false := by
  rcases d with ⟨kvs, e⟩ | ⟨kvs, e⟩
  · obtain ⟨_, hd, vs, _, dd⟩ := dk_rd I.hok e
    refine ⟨dd.typeIs, fun b q => ?_, hd⟩
    cases q
    obtain ⟨ob, _, _, h1, h2, _⟩ := dd
    exact ⟨ob, h1, h2.2.1⟩
  · obtain ⟨_, hd, xs, _, dd⟩ := dt_rd I.hok e
    refine ⟨dd.typeIs, fun b q => ?_, hd⟩
    cases q
    obtain ⟨ob, _, _, h1, h2, _⟩ := dd
    exact ⟨ob, h1, h2.2.1⟩

section
variable {X : Cx} {pins : List (Addr × Obj)} {σ : St} {H : Hp} {s : Shared} {a : Addr} {y d : V} {u r : Value} {o : Option V} {A : Around} {E : Value → Shared → Prop}
/-- d.get(y, x) -/
theorem d_get2 {Q : Value → Shared → Prop} (hu : A.units + 1 < cLine) (I : Inv X pins σ H s) (g : DGet H a y o) (ry : RelV y u) (rd : RelV d r) (h : ∀ w' s', Inv X pins σ H s' → RelV (o.getD d) w' → Q w' s') :
    wpAny (model X.prog X.w) A (call (.builtin "dict.get") [.ref a, u, r]) Q E s := by
  rcases g with ⟨kvs, k, e, ey, l⟩ | ⟨kvs, k, b, e, ey, eb, l⟩
  · subst ey
    obtain ⟨z, hd, vs, rel, dd⟩ := dk_rd I.hok e
    refine call_meetsIn PySem.F.slot_dict_get dd.typeIs PySem.F.entry_dict_get (PySem.F.args_dict_get_3 _ _ _) (meets_dict_get_default (mixKind X.prog X.w) a (kV_is ry) hd r) ⟨_, dd.mapOf, h _ _ (I.tok _) ?_⟩
    rw [l]
    exact (rel.val k).getD rd
  · subst ey
    cases (show u = Value.ref b from ry)
    obtain ⟨z, hd, xs, rel, dd⟩ := dt_rd I.hok e
    refine call_meetsIn PySem.F.slot_dict_get dd.typeIs PySem.F.entry_dict_get (PySem.F.args_dict_get_3 _ _ _) (meetsH_dict_get_default (tupleKind (mixKind X.prog X.w)) a b hd r) ⟨tupleKind_room_in1 hu, k, xs, key_of I.hok eb, dd, h _ _ (I.tok _) ?_⟩
    rw [l]
    exact (rel.val k).getD rd
end

def tDGet2 (td ty tx : TE) : TE := fun σ H Q => td σ H fun x H1 => ∃ a, x = .ref a ∧ IsD H1 a ∧ ty σ H1 fun y H2 => tx σ H2 fun z H3 => ∃ o, DGet H3 a y o ∧ Q (o.getD z) H3
section
variable {X : Cx} {o e f : Expr} {apos cpos : Pos} {td ty tx : TE}
theorem pe_dget2 (hu : X.A.units + 1 < cLine) (ho : PE X o td) (he : PE X e ty) (hf : PE X f tx) (m : M2 X o "get" apos e f cpos) : PE X (.Call (.Attribute o "get" apos) [e, f] [] cpos) (tDGet2 td ty tx) := by
  intro pins s σ H Q I h
  refine wpAny_Call_method m.base m.few m.line PySem.F.plainAttrs_dict PySem.F.slot_dict_get PySem.F.type_dict_get (thn (ho pins s σ H _ I h) fun u s1 ⟨x, H1, I1, rx, a, ex, d, q1⟩ => ?_)
  subst ex
  obtain rfl : u = Value.ref a := rx
  obtain ⟨t1, t2, _⟩ := isD_at I1 d
  refine ⟨t1, t2, ?_⟩
  rw [m.trees]
  refine Calls.callWith_builtin rfl (Calls.evalArgs_plain (Calls.spliced_cons (thn (he pins s1 σ H1 _ I1 q1) fun iv s2 ⟨y, H2, I2, ry, q2⟩ =>
    Calls.spliced_cons (thn (hf pins s2 σ H2 _ I2 q2) fun fv s3 ⟨z, H3, I3, rz, ov, g, q3⟩ => Calls.spliced_nil ?_))))
  exact d_get2 hu I3 g ry rz fun w' s4 I4 rw' => ⟨_, H3, I4, rw', q3⟩
end

end L2

namespace L2
open PySem PySem.Spec PyProof.Rows

end L2

namespace L2
open PySem PySem.Spec PyProof.Rows

theorem boot_reversed5 : bootBuiltins "reversed" = some (.type "reversed") := by decide +kernel

section
variable {X : Cx} {pins : List (Addr × Obj)} {σ : St} {H : Hp} {s : Shared} {h' : Heap}

/-! ### locking a thing while a statement runs -/
theorem Inv.lock {d : Addr} {u : HO} (I : Inv X pins σ H s) (h : H d = some u) (mu : Mut (some u)) : ∃ od, Inv X pins σ (upd H d (.frz od u)) s := by
  have x := I.hok d u h
  have ex : ∃ od, s.heap.get? d = some od := by
    cases u with
    | lst xs => obtain ⟨_, _, _, _, e⟩ := x; exact ⟨_, e⟩
    | dK kvs => obtain ⟨_, _, _, _, o, _, _, e, _⟩ := x; exact ⟨o, e⟩
    | dT kvs => obtain ⟨_, _, _, _, o, _, _, e, _⟩ := x; exact ⟨o, e⟩
    | set S n => obtain ⟨o, _, _, _, e, _⟩ := x; exact ⟨o, e⟩
    | ins C dx fs => obtain ⟨_, _, _, e, _⟩ := x; exact ⟨_, e⟩
    | ext φ => obtain ⟨_, ⟨_, e⟩, _⟩ := x; exact ⟨_, e⟩
    | _ => exact False.elim mu
  obtain ⟨od, e⟩ := ex
  have new : ObjOk X.prog X.w (upd H d (.frz od u)) s.heap d (.frz od u) := by
    refine ⟨e, x.stay (fun b v _ q => q) (fun b q => ?_) fun b xs q => ?_⟩
    · rw [upd_ne (fun z => by rw [z, h] at q; cases q; exact mu)]; exact q
    · rw [upd_ne (fun z => by rw [z, h] at q; cases q; exact mu)]; exact q
  exact ⟨od, I.write (x := d) (e := d) (t' := s.toks) (h' := s.heap) (by rw [h]; exact mu) (.inl rfl) (fun b v _ q => q) ⟨od, e⟩ new⟩
theorem Inv.nofrz {d : Addr} {u : HO} (I : Inv X pins σ H s) (h : H d = some u) (mu : Mut (some u)) : ∀ o' u', X.H_0 d ≠ some (.frz o' u') := fun o' u' e => by
  have q := I.base.frzs d o' u' e
  rw [h] at q
  cases q
  exact mu
theorem Inv.unlock {d : Addr} {od : Obj} {u : HO} (I : Inv X pins σ H s) (h : H d = some (.frz od u)) (hn : ∀ o' u', X.H_0 d ≠ some (.frz o' u')) : Inv X pins σ (upd H d u) s := by
  have neH : ∀ b o, H b = some o → (∀ o' u', o ≠ .frz o' u') → b ≠ d := fun b o e hne z => by
    rw [z, h] at e
    cases e
    exact hne _ _ rfl
  have neN : ∀ b, H b = none → b ≠ d := fun b e z => by rw [z, h] at e; cases e
  refine ⟨I.ok, I.os, I.bare, ⟨I.base.keep, I.base.slot, fun b o e n hx => ?_, I.base.there, fun b xs e => ?_, fun b o x e => ?_, fun b ps e => ?_⟩, I.loc, I.cell, ?_, fun x c e => ?_, fun p hp => ?_, fun b o e => ?_, I.len⟩
  · rw [upd_ne (neN b (I.base.free b o e n hx))]; exact I.base.free b o e n hx
  · have q := I.base.tups b xs e
    rw [upd_ne (neH b _ q (fun _ _ z => nomatch z))]; exact q
  · have q := I.base.frzs b o x e
    rw [upd_ne (fun z => by rw [z] at e; exact hn _ _ e)]; exact q
  · obtain ⟨m, q⟩ := I.base.tbls b ps e
    exact ⟨m, by rw [upd_ne (neH b _ q (fun _ _ z => nomatch z))]; exact q⟩
  · rw [upd_ne (neN _ I.free)]; exact I.free
  · rw [upd_ne (neN c (I.freeC x c e))]; exact I.freeC x c e
  · obtain ⟨e, n, r⟩ := I.pin p hp
    exact ⟨e, by rw [upd_ne (neN _ n)]; exact n, r⟩
  · by_cases hb : b = d
    · rw [hb, upd_same] at e
      cases e
      rw [hb]
      obtain ⟨_, x⟩ := I.hok d _ h
      exact x.stay (fun c v _ q => q) (fun c q => by rw [upd_ne (neH c _ q (fun _ _ z => nomatch z))]; exact q) fun c xs q => by rw [upd_ne (neH c _ q (fun _ _ z => nomatch z))]; exact q
    · rw [upd_ne hb] at e
      exact (I.hok b o e).stay (fun c v _ q => q) (fun c q => by rw [upd_ne (neH c _ q (fun _ _ z => nomatch z))]; exact q) fun c xs q => by rw [upd_ne (neH c _ q (fun _ _ z => nomatch z))]; exact q
end
section
variable {X : Cx}

/-! ### one iterator just laid -/
theorem pi_one {tg : Expr} {pins : List (Addr × Obj)} {σ : St} {H : Hp} {s : Shared} {R : It → Hp → Prop} {J : It} {tn : Nat → Heap → Prop} {tk : Nat} (I : Inv X pins σ H s) (o : Obj)
    (T : Turn X.prog X.w X.K tg J [s.heap.objs.size] s.heap.objs.size tn) (st : tn 0 (s.heap.push o)) (q : R J H) : PIE X pins σ tg R (.ref s.heap.objs.size) { s with heap := s.heap.push o, toks := tk } := by
  refine ⟨s.heap.objs.size, [s.heap.objs.size], tn, J, H, rfl, I.kept fun b ob e => Heap.get?_push_of_some _ e, T, st, fun b hb => ?_, q⟩
  have e : b = s.heap.objs.size := by simpa using hb
  subst e
  exact I.fpOk (Nat.le_refl _) (I.hok.fresh (Nat.le_refl _))
end

/-! ### reversed(list) -/
/-- the list at a (n items at the start, which the loop leaves there), from its end -/
def Itv (K : PySem.W.Frag) (a : Addr) (n : Nat) : It :=
  ⟨fun i H => i < n ∧ ∃ (xs : List V) (x : V), SqL K H a xs ∧ xs[n - 1 - i]? = some x, fun i H x H' => H' = H ∧ ∀ xs, SqL K H a xs → xs[n - 1 - i]? = some x, fun i _ => n ≤ i⟩
theorem turn_rev {P : Program} {w : World} {K : PySem.W.Frag} {tg : Expr} (a it : Addr) (n : Nat) : Turn P w K tg (Itv K a n) [it] it (fun i h => i ≤ n ∧ h.IsRevIter it a ((n : Int) - 1 - (i : Nat))) where
  mem := by simp
  obj := fun i h st b hb => by
    have e : b = it := by simpa using hb
    subst e
    obtain ⟨_, o, e, c, d⟩ := st
    exact ⟨o, e, fun v z => by rw [d] at z; cases z⟩
  keep := fun i h h' st k => ⟨st.1, st.2.at fun o e => k it (by simp) o e⟩
  item := by
    intro X hP hw hK hc i pins s σ H E I hf st hg
    subst hP hw hK
    obtain ⟨hin, xs, x, hq, hx⟩ := hg
    obtain ⟨its, rv, p, hz⟩ := I.list hq
    obtain ⟨u, hu, ru⟩ := rv.get hx
    obtain ⟨f0, f1, f2, f3, f4, f5⟩ := hf it (by simp)
    obtain ⟨_, hit⟩ := st
    have e1 : (n : Int) - 1 - ((i : Nat) : Int) = ((n - 1 - i : Nat) : Int) := by omega
    rw [e1] at hit
    refine wpAny_pyNext_rev_item hit p.isList (x := u) (by simpa using hu) fun h' st' sb => ?_
    have e2 : ((n - 1 - i : Nat) : Int) - 1 = (n : Int) - 1 - ((i + 1 : Nat) : Int) := by omega
    rw [e2] at st'
    have I1 : Inv X pins σ H { s with heap := h' } := I.turned (t' := s.toks) (fun b o hb e => (sb.2 b hb).trans e) f0 f1 f3 f4 f5
    obtain ⟨o, e, c, d⟩ := id st'
    exact ⟨u, rfl, go_of (s := { s with heap := h' }) e c d (by decide) ⟨x, H, I1, ru, ⟨rfl, fun ys hy => by rw [I.list_inj hy hq]; exact hx⟩, ⟨hin, st'⟩, fun b hb => (hf b hb).1⟩⟩
  done := by
    intro X hP hw hK hc i pins s σ H E I hf st hg
    subst hP hw hK
    obtain ⟨f0, f1, f2, f3, f4, f5⟩ := hf it (by simp)
    obtain ⟨hin, hit⟩ := st
    have hge : n ≤ i := hg
    have e1 : (n : Int) - 1 - ((i : Nat) : Int) = -1 := by omega
    rw [e1] at hit
    exact wpAny_pyNext_rev_end (I.ok.hd hc) hit fun h' eb => ⟨rfl, I.turned (t' := s.toks) (fun b o hb e => eb b o hb e) f0 f1 f3 f4 f5⟩
  self := fun A i s Q E st h => wpAny_pyIter_revIter st.2 h
def iRev (K : PySem.W.Frag) (ta : TA) : TI := fun σ H R => ta σ H fun vs H1 => ∃ (a : Addr) (xs : List V), vs = [.ref a] ∧ SqL K H1 a xs ∧ R (Itv K a xs.length) H1
section
variable {X : Cx} {tg : Expr}
theorem pi_reversed {e : Expr} {ta : TA} {p pos : Pos} (hg : Gl X "reversed") (hm : X.mg "reversed" = none) (ha : PA X [e] ta) (hs : starEach [e] X.env = [(false, eval e X.env)] := by rfl) : PI X tg (.Call (.Name "reversed" p) [e] [] pos) (iRev X.K ta) := by
  intro pins s σ H R I h
  refine Call_ (ld_blt I hg hm boot_reversed5 (PyProof.Rows.callWith_type1 (thn (ha pos pins s σ H _ I h) fun us s1 ⟨vs, H1, I1, r1, q1⟩ => ?_) hs rfl))
  obtain ⟨a, xs, e, hq, q⟩ := q1
  subst e
  cases r1 with
  | cons r rr =>
    cases rr
    cases r
    obtain ⟨its, rv, p', hz⟩ := I1.list hq
    have hl := rv.length
    have e1 : ((its.toArray.size : Nat) : Int) - 1 = (xs.length : Int) - 1 - ((0 : Nat) : Int) := by simp only [List.size_toArray]; omega
    refine call_reversed_list p'.isList (wpAny_pyIter_revIter (l := a) (i := ((its.toArray.size : Nat) : Int) - 1) ⟨_, Heap.get?_push_size _ rfl, rfl, rfl⟩ ?_)
    refine pi_one (tk := s1.toks) I1 _ (turn_rev a _ xs.length) ⟨Nat.zero_le _, ?_⟩ q
    rw [← e1]
    exact ⟨_, Heap.get?_push_size _ rfl, rfl, rfl⟩
end

end L2

section 
namespace Bits
open PySem PyProof.Rows

/-- x & ((1 << k) - 1) -/
theorem bitAnd_mask {x : Int} (k : Nat) (hx : 0 ≤ x) : Builtin.bitAnd x (2 ^ k - 1) = x % 2 ^ k := by
  obtain ⟨n, rfl⟩ := Int.eq_ofNat_of_zero_le hx
  have hp : 0 < 2 ^ k := Nat.two_pow_pos k
  rw [two_pow_cast]
  have e : ((2 ^ k : Nat) : Int) - 1 = ((2 ^ k - 1 : Nat) : Int) := by
    generalize (2 : Nat) ^ k = m at hp
    omega
  rw [e, bitAnd_pp (by omega) (by omega), Int.toNat_natCast, Int.toNat_natCast, Nat.and_two_pow_sub_one_eq_mod]
  first
    | rfl
    | exact Int.natCast_emod _ _
    | simp

theorem nat_xor_add_and (m : Nat) : ∀ n : Nat, (m ^^^ n) + 2 * (m &&& n) = m + n := by
  induction m using Nat.strongRecOn with
  | _ m ih =>
    intro n
    by_cases h0 : m = 0
    · subst h0
      simp
    · have ih' := ih (m / 2) (by omega) (n / 2)
      rw [← Nat.xor_div_two, ← Nat.and_div_two] at ih'
      have o1 := @Nat.xor_mod_two_eq_one m n
      have a1 := @Nat.and_mod_two_eq_one m n
      omega

theorem bitXor_pp {x y : Int} (hx : 0 ≤ x) (hy : 0 ≤ y) : Builtin.bitXor x y = ((x.toNat ^^^ y.toNat : Nat) : Int) := by
  have e := nat_xor_add_and x.toNat y.toNat
  rw [bitXor_and, bitAnd_pp hx hy]
  omega

end Bits
end 

section 
namespace TL
open PySem PySem.Builtin PySem.Builtin.Str PySem.StrLaws

end TL
end 

namespace L2
open PySem PySem.Spec PyProof.Rows

end L2

namespace L2
open PySem PySem.Spec PyProof.Rows

end L2

namespace Att
open PySem PySem.W PySem.Calls PyProof.Rows

end Att

namespace L2
open PySem PySem.Spec PyProof.Rows

theorem vals_ints : ∀ {vs : List Value} {ns : List Int}, IntsAre vs ns → Vals (ns.map V.int) vs
  | _, _, .nil => .nil
  | _, _, .cons n t h => .cons ⟨t, rfl⟩ (vals_ints h)

/-- nothing is tracked but the script, known to the object (or it is an object of the module) -/
def Only (H : Hp) : Prop := ∀ b, H b = none ∨ ∃ o xs, H b = some (.frz o (.lst xs))

/-- THE HEAD: the law's promise, at the heap behind the top. F, the promise of the law's def, may use that base is part of the heap (so K.In base, base.Ns mainGlobals mg stand in Mod) -/
theorem law_call {P : Program} {w : World} {K : PySem.W.Frag} {mg mb : Str → Option Value} {CX : CXT} {k : Nat} {fa a : Addr} {fd : FuncData} {x : Str} {sp : Sp} {s₁ : Shared} {vs : List Value} {ns : List Int}
    (KX : K.In s₁.heap) (hns : s₁.heap.Ns mainGlobals mg) (hb : s₁.heap.Ns builtinsNs mb) (hbb : ∀ x : Str, x ≠ "__name__" → mb x = bootBuiltins x) (hlim : s₁.heap.NoLimit) (hg : s₁.gens = #[])
    (ha : s₁.heap.get? a = some { cls := .type "list", data := .seq vs.toArray }) (hi : IntsAre vs ns) (hl : ns.length ≤ sizeLine) (hr : Room k callerA)
    (F : ∀ base : Heap, K.In base → base.Ns mainGlobals mg → FnOk P w K mg base CX k fa fd [x] sp) (hbind : ∀ (s : Shared) (u : Value), BindsTo s fd ⟨[u], []⟩ [(x, u)])
    (hsp : ∀ H : Hp, Only H → SqL K H a (ns.map V.int) → sp [.ref a] H (fun v _ => v = .bl true) fun _ _ _ => False)
    (hCX : ∀ H e s', CX [] H s₁ (fun _ _ _ => False) e s' → False) :
    codeAny (model P w) callerA (.call (.ref fa) ⟨[.ref a], []⟩) (fun r s' => r = .ok (.ret (.bool true)) ∧ OldK s₁.heap s'.heap ∧ s'.os = s₁.os ∧ AllBare s'.gens) s₁ := by
  have rv := vals_ints hi
  have lenV := hi.length
  -- from an abstract heap in which nothing but the script may be tracked
  have core : ∀ H : Hp, Only H → SqL K H a (ns.map V.int) → HOk P w H s₁.heap → (∀ b, H b ≠ none → b = a) → (H a ≠ none → K.lookup a = none) →
      codeAny (model P w) callerA (.call (.ref fa) ⟨[.ref a], []⟩) (fun r s' => r = .ok (.ret (.bool true)) ∧ OldK s₁.heap s'.heap ∧ s'.os = s₁.os ∧ AllBare s'.gens) s₁ := by
    intro H hO hS hok hA hK
    have base_of : ∀ {b : Addr} {o : Obj}, s₁.heap.get? b = some o → H b = none → (hidT s₁.heap H).get? b = some o := fun e n => hidT_get e n
    have noA : ∀ {b : Addr} {o : Obj} {es : Array DictEntry} {ep : Nat}, s₁.heap.get? b = some o → o.data = .dict es ep → H b = none := fun {b o es ep} e d => by
      cases q : H b with
      | none => rfl
      | some u =>
        have e' : b = a := hA b (by rw [q]; simp)
        subst e'
        rw [ha] at e; cases e
        have d' : Data.seq vs.toArray _ = Data.dict es ep := d
        cases d'
    have nsK : ∀ {b : Addr} {m : Str → Option Value}, s₁.heap.Ns b m → (hidT s₁.heap H).Ns b m := fun {b m} ⟨o, es, ep, e, d, r⟩ => ⟨o, es, ep, base_of e (noA e d), d, r⟩
    have hKb : K.In (hidT s₁.heap H) := fun b o e => base_of (KX b o e) (by
      cases q : H b with
      | none => rfl
      | some u =>
        have e' : b = a := hA b (by rw [q]; simp)
        subst e'
        rw [hK (by rw [q]; simp)] at e; cases e)
    have hM : Mod K mg (hidT s₁.heap H) := ⟨hKb, nsK hns, ⟨mb, nsK hb, hbb⟩, let ⟨mc, h1, h2⟩ := hlim; ⟨mc, nsK h1, h2⟩⟩
    have e0 : Env0 P w K mg (hidT s₁.heap H) callerA [] s₁ H := ⟨rfl, hM, fun b o e => of_hidT e, Nat.le_of_eq (hidT_size _ _), trivial, fun b hb => absurd (show b ∈ ([] : List Addr) from hb) (by simp), hok, .of_eq hg⟩
    refine codeAny_mono ((F _ hKb (nsK hns)).run callerA [] s₁ H ⟨[.ref a], []⟩ [.ref a] [.ref a] _ _ hr e0 (hbind s₁ (.ref a)) (.cons rfl .nil) (hsp H hO hS)) fun r s' h => ?_
    cases r with
    | error e => exact (hCX H e s' h).elim
    | ok fl =>
      cases fl with
      | next => exact False.elim h
      | brk => exact False.elim h
      | cont => exact False.elim h
      | ret u =>
        obtain ⟨v, H', os, bare, un, hok', r', q⟩ := h
        have q' : v = .bl true := q
        subst q'
        obtain rfl : u = Value.bool true := r'
        refine ⟨rfl, OldK.of_keep fun b o e => ?_, os, bare⟩
        cases q : H b with
        | none => exact un.keep b o e q (by intro z; exact absurd (show b ∈ ([] : List Addr) from z) (by simp)) (by simp)
        | some u =>
          rcases hO b with z | ⟨ob, xs, z⟩
          · rw [q] at z; cases z
          · have z2 := un.frzs b ob _ z
            obtain ⟨e1, _⟩ := hok b _ z
            obtain ⟨e2, _⟩ := hok' b _ z2
            rw [e] at e1; cases e1
            exact e2
  cases hk : K.lookup a with
  | some o =>
    -- the script is one of the module's own objects
    have e := KX a o hk
    rw [ha] at e
    cases e
    refine core (fun _ => none) (fun _ => .inl rfl) (.inr ⟨_, vs.toArray, _, hk, rfl, rfl, rfl, by rw [List.size_toArray, lenV]; exact hl, by simpa using rv⟩) (fun b u z => by have z' : (none : Option HO) = some u := z; cases z') (fun b z => absurd rfl z) fun z => absurd rfl z
  | none =>
    refine core (fun b => if b = a then some (.frz { cls := .type "list", data := .seq vs.toArray } (.lst (ns.map V.int))) else none) (fun b => ?_) (.inl (.inr ⟨{ cls := .type "list", data := .seq vs.toArray }, if_pos rfl⟩)) (fun b u z => ?_) (fun b z => ?_) fun _ => hk
    · by_cases hb : b = a
      · exact .inr ⟨_, _, if_pos hb⟩
      · exact .inl (if_neg hb)
    · by_cases hb : b = a
      · have z' := (if_pos hb).symm.trans z
        cases z'
        subst hb
        exact ⟨ha, by rw [List.length_map]; exact hl, vs, _, rv, ha⟩
      · have z' := (if_neg hb).symm.trans z
        cases z'
    · by_cases hb : b = a
      · exact hb
      · exact absurd (if_neg hb) z
end L2

namespace L2
open PySem PySem.Spec PyProof.Rows

end L2

/- THE LAST THEOREM (shape; LID, My.* are yours):
   My.Adr: a structure of the addresses that your layer names (classes, functions); My.Txt K t: a structure (Prop) of the equations over K;
   My.txt_mk : {K} {implicit addresses ..} (e1 : nsIn K mainGlobals "law" = some (some (.ref f))) (e2 : K.lookup f = some ⟨oc, od, .func (fnOf "law" "law" params body scope dV kV doc pm an cdv ct), sl⟩) (e3 : codeIn K cdv "law" = true) .. : ∃ t, My.Txt K t

set_option maxRecDepth 100000 in
set_option maxHeartbeats 0 in
theorem PySem.Challenge.cw_LID_holds : PySem.Challenge.rw_LID.Holds := by
  w_on; o_law; k_head; (case hw => w_witness2)
  k_fill
  refine L2.walk_of (l := PySem.Challenge.rw_LID) (n := 63) (k := 40) (x := "script") (CX := fun w => ..) (sp := fun _ => My.sp_law) rfl (by decide) rfl ⟨rfl, by decide, by decide⟩ (fun w h Y => PySem.W.kIn_of Y) ?F ?S ?C
  case F =>
    intro w mg fa h KX G hmg
    have T : ∃ t, My.Txt (L2.KOf KX) t := by
      dsimp only [L2.KOf]                          -- K must stand as «<heap const> w.params» for k_is
      refine' My.txt_mk ?e1 ?e2 ?e3 ..
      (case e1 => PySem.W.k_is)                    -- in the order: a name -> its address -> its object -> its parts
      (case e2 => PySem.W.k_is)
      ..
    obtain ⟨t, T⟩ := T
    have e0 := hmg.symm.trans (PySem.W.mg_of KX G T.law)
    cases e0                                       -- fa is the law's own address
    exact ⟨_, fun s u => .of_eq rfl, fun base kb nb => My.law_fn T kb nb⟩     -- if «.of_eq rfl» comes too early: refine' ⟨_, ?b, fun base kb nb => My.law_fn T kb nb⟩; exact fun s u => .of_eq rfl
  case S => exact fun w H a ns hl hO hS => ..
  case C => exact ..
(the tactic k_is has no namespace: write k_is) -/

/-! SHORT WORDS over the layer: a def of the text, its body, what a loop and a test want. -/
namespace L2
open PySem PySem.Spec PyProof.Rows

/-! ### the text by places -/
/-- the j-th statement of a class's body -/
def inClass (s : Stmt) (j : Nat) : Stmt := match s with
  | .ClassDef _ _ _ body _ _ _ _ _ _ _ => body.getD j (.Pass ⟨0, 0, 0, 0⟩)
  | _ => .Pass ⟨0, 0, 0, 0⟩
def defArgs (s : Stmt) : Arguments := match s with
  | .FunctionDef _ a _ _ _ _ _ _ _ _ => a
  | _ => { posonlyargs := [], args := [], vararg := none, kwonlyargs := [], kw_defaults := [], kwarg := none, defaults := [] }
def defBody (s : Stmt) : List Stmt := match s with
  | .FunctionDef _ _ b _ _ _ _ _ _ _ => b
  | _ => []
def defScope (s : Stmt) : Scope := match s with
  | .FunctionDef _ _ _ _ _ _ sc _ _ _ => sc
  | _ => { kind := .function, names := [], isGenerator := false, isCoroutine := false }

/-! ### no exception leaves a def -/
abbrev CX0 : CXT := fun _ _ _ _ _ _ => False
abbrev E0 : XK := fun _ _ _ => False
theorem pass0 {X : Cx} : Passes CX0 X E0 := fun _ _ _ _ _ _ _ h => h.elim

/-! ### a def (or method) of the text as it stands behind the top -/
structure Fun (K : PySem.W.Frag) (x qual : Str) (st : Stmt) (f : Addr) (fd : FuncData) : Prop where
  ex : ∃ (oc : Value) (od : Option Addr) (kV doc pm : Value) (an : Option Addr) (cdv ct : Value) (osl : Array (Option Value)),
    fd = PySem.W.fnOf x qual (defArgs st) (defBody st) (defScope st) .none kV doc pm an cdv ct ∧ K.lookup f = some ⟨oc, od, .func fd, osl⟩ ∧ PySem.W.codeIn K cdv qual = true
  kp : PySem.W.keepIn K (.ref f) = true
section
variable {P : Program} {w : World} {K : PySem.W.Frag} {mg : Str → Option Value} {base : Heap}
/-- THE RULE for a def: its body as a term of rules, and the reading of that term -/
theorem Fun.ok {x qual : Str} {st : Stmt} {f : Addr} {fd : FuncData} {N ps : List Str} {k : Nat} {sp : Sp} (F : Fun K x qual st f fd) (S : FnScope N ps (defScope st)) (len : ∀ vs H Q E, sp vs H Q E → vs.length = ps.length)
    (hbody : ∀ (cdv : Value) (A : Around) (outer : List Env) (s : Shared) (H : Hp) (vs : List V) (Q : VK) (E : XK), Room k (A.deeper (envOfC qual (defScope st) s.heap.objs.size f cdv)) → sp vs H Q E →
      ∃ t, PSs (cxOf CX0 P w K mg base N qual (defScope st) f cdv A outer s H E).nox (defBody st) t ∧ t { nx := fun _ H' => Q .non H', rt := Q } (start N vs) H) : FnOk P w K mg base CX0 (k + 1) f fd ps sp := by
  obtain ⟨oc, od, kV, doc, pm, an, cdv, ct, osl, rfl, lk, hcd⟩ := F.ex
  refine fn_of lk hcd S len fun A outer s H vs Q E hr hsp => ?_
  obtain ⟨t, h, q⟩ := hbody cdv A outer s H vs Q E hr hsp
  exact ⟨t, h.nox, q⟩
/-- how its arguments bind (no defaults): h is «fun _ _ _ _ _ _ us hl => match us, hl with | [_, _], _ => rfl», one _ a parameter -/
theorem Fun.binds {x qual : Str} {st : Stmt} {f : Addr} {fd : FuncData} {ps : List Str} (F : Fun K x qual st f fd)
    (h : ∀ (kV doc pm : Value) (an : Option Addr) (cdv ct : Value) (us : List Value), us.length = ps.length → bindArgs (PySem.W.fnOf x qual (defArgs st) (defBody st) (defScope st) .none kV doc pm an cdv ct) ⟨us, []⟩ = pure (ps.zip us)) : Binds K fd ps [] := by
  obtain ⟨oc, od, kV, doc, pm, an, cdv, ct, osl, rfl, lk, hcd⟩ := F.ex
  exact .all (h kV doc pm an cdv ct)
theorem fun_mk {x qual : Str} {st : Stmt} {f : Addr} {oc : Value} {od an : Option Addr} {osl : Array (Option Value)} {kV doc pm cdv ct : Value} (l : K.lookup f = some ⟨oc, od, .func (PySem.W.fnOf x qual (defArgs st) (defBody st) (defScope st) .none kV doc pm an cdv ct), osl⟩)
    (c : PySem.W.codeIn K cdv qual = true) (k : PySem.W.keepIn K (.ref f) = true) : Fun K x qual st f (PySem.W.fnOf x qual (defArgs st) (defBody st) (defScope st) .none kV doc pm an cdv ct) := ⟨⟨oc, od, kV, doc, pm, an, cdv, ct, osl, rfl, l, c⟩, k⟩
end
theorem hu_of {A : Around} {k : Nat} (hr : Room k A) : A.units + 1 < cLine := Nat.lt_of_le_of_lt (Nat.add_le_add_left (by decide : 1 ≤ 64) _) hr.units

/-! ### expressions in short: the name that stands in the i-th slot -/
section
variable {X : Cx}
theorem pv (i : Nat) {x : Str} {pos : Pos} (hN : X.N[i]? = some x := by rfl) (hv : Vis X.env.scope x := by first | exact Or.inl rfl | exact Or.inr (Or.inl rfl) | exact Or.inr (Or.inr rfl)) (hd : (x == ("__debug__" : Str)) = false := by decide)
    (hcd : (x == ("__classdict__" : Str)) = false := by decide) : PE X (.Name x pos) (tVar i) := pe_var hN hv hd hcd
end

/-! ### tests -/
theorem iteF {A B : Prop} (h : B) : if false = true then A else B := by
  rw [if_neg Bool.false_ne_true]
  exact h
theorem iteT {A B : Prop} (h : A) : if true = true then A else B := by
  rw [if_pos rfl]
  exact h
theorem ite2 {c A B : Prop} [Decidable c] (h1 : c → A) (h2 : ¬ c → B) : if c then A else B := by
  by_cases h : c
  · rw [if_pos h]
    exact h1 h
  · rw [if_neg h]
    exact h2 h

/-! ### heaps -/
/-- all that was tracked is as it was -/
def Same (H H' : Hp) : Prop := ∀ b o, H b = some o → H' b = some o
theorem Same.refl (H : Hp) : Same H H := fun _ _ h => h
theorem Same.trans {H H1 H2 : Hp} (a : Same H H1) (b : Same H1 H2) : Same H H2 := fun c o h => b c o (a c o h)
theorem Same.free {H H' : Hp} (e : Same H H') {l : Addr} (h : H' l = Option.none) : H l = Option.none := by
  cases q : H l with
  | none => rfl
  | some o =>
    rw [e l o q] at h
    cases h

/-! ### a dict's pairs: keys that differ -/
section
variable {κ : Type} [DecidableEq κ]
theorem valV_not {kvs : List (κ × V)} {k : κ} (h : valV kvs k = none) : ¬ k ∈ kvs.map (·.1) := by
  intro m
  obtain ⟨p, hp, e⟩ := List.mem_map.mp m
  have q : (kvs.any fun kv => decide (kv.1 = k)) = true := List.any_eq_true.mpr ⟨p, hp, decide_eq_true e⟩
  rw [valV_any, h] at q
  exact absurd q (by simp)
theorem nd_snoc : ∀ {l : List κ} {k : κ}, l.Nodup → ¬ k ∈ l → (l ++ [k]).Nodup
  | [], k, _, _ => by simp
  | a :: r, k, h, hk => by
    obtain ⟨h1, h2⟩ := List.nodup_cons.mp h
    show (a :: (r ++ [k])).Nodup
    refine List.nodup_cons.mpr ⟨fun m => ?_, nd_snoc h2 fun m => hk (List.mem_cons.mpr (Or.inr m))⟩
    rcases List.mem_append.mp m with q | q
    · exact h1 q
    · exact hk (List.mem_cons.mpr (Or.inl (List.mem_singleton.mp q).symm))
theorem nd_putK {kvs : List (κ × V)} {k : κ} (v : V) (hn : (kvs.map (·.1)).Nodup) (h : valV kvs k = none) : ((putK kvs k v).map (·.1)).Nodup := by
  rw [putK_new v h, List.map_append]
  exact nd_snoc hn (valV_not h)
end
/-! ### lists -/
theorem at_of {xs : List V} {z : Int} {j : Nat} {v : V} (e : z = (j : Int)) (h : xs[j]? = some v) : atI xs z = some v := by
  rw [e]
  exact atI_nat h
/-- a new instance and its __init__ leave all that was tracked as it was -/
theorem Same.made {H H1 : Hp} {x dx C : Addr} (nx : H x = Option.none) (nd : H dx = Option.none) (k : ∀ b o, (upd (upd H dx (.own x)) x (.ins C dx [])) b = some o → b ≠ x → H1 b = some o) : Same H H1 := fun b o e =>
  k b o (by rw [upd_ne (ne_of_none e nx), upd_ne (ne_of_none e nd)]; exact e) (ne_of_none e nx)
end L2

section
set_option Elab.async false
set_option linter.all false
set_option maxRecDepth 100000
namespace L2
open PySem PySem.Spec PyProof.Rows
end L2
namespace L2
open PySem PySem.Spec PyProof.Rows
end L2
namespace L2
open PySem PySem.Spec PyProof.Rows
end L2
namespace L2
open PySem PySem.Spec PyProof.Rows
section
variable {X : Cx}
/-! ### names and constants -/
variable {a b : Expr} {ta tb : TE} {pos : Pos}
/-! ### and, or, not -/
variable {tA tB' : TT} {rest : List Expr}
end
end L2
namespace L2
open PySem PySem.Spec PyProof.Rows
end L2
namespace L2
open PySem PySem.Spec PyProof.Rows
end L2
end
section
set_option Elab.async false
set_option linter.all false
set_option maxRecDepth 100000
namespace L2
open PySem PySem.Spec PyProof.Rows
end L2
namespace L2
open PySem PySem.Spec PyProof.Rows
end L2
namespace L2
open PySem PySem.Spec PyProof.Rows
end L2
namespace L2
open PySem PySem.Spec PyProof.Rows
end L2
end
section
set_option Elab.async false
set_option linter.all false
set_option maxRecDepth 100000
set_option maxRecDepth 100000
namespace HT
open PySem PyProof.Rows
end HT
namespace L2
open PySem PySem.Spec PyProof.Rows
end L2
namespace L2
open PySem PySem.Spec PyProof.Rows
/-! ### what may be subscripted -/
section
variable {X : Cx} {a b : Expr} {ta tb : TE} {pos : Pos}
/-! ### the call of a builtin's method: o.m(..) -/
variable {o e : Expr} {es : List Expr} {to : TE} {t : TA} {name : Str} {apos cpos : Pos} {T id : String} {r : V → List V → Hp → VK → Prop}
end
end L2
namespace L2
open PySem PySem.Spec PyProof.Rows
end L2
namespace L2
open PySem PySem.Spec PyProof.Rows
end L2
end
section
set_option Elab.async false
set_option linter.all false
set_option maxRecDepth 100000
namespace Att
open PySem PySem.W PySem.Calls PyProof.Rows
end Att
namespace L2
open PySem PySem.Spec PyProof.Rows
end L2
namespace L2
open PySem PySem.Spec PyProof.Rows
end L2
end
section
set_option Elab.async false
set_option linter.all false
set_option maxRecDepth 100000
set_option maxHeartbeats 2000000
namespace L2
open PySem PySem.Spec PyProof.Rows
open PySem.W (WData Codec OpenSpec Well WellAll ReadsW ReadsAllW)
/-! ### an answer as data -/
mutual
/-- x stands for the datum d, lists and tuples all the way -/
inductive Dw (K : PySem.W.Frag) (H : Hp) : V → WData → Prop
  | non : Dw K H .non .none
  | bl (b : Bool) : Dw K H (.bl b) (.bool b)
  | int (i : Int) : Dw K H (.int i) (.int i)
  | str (x : Str) : Dw K H (.str x) (.str x)
  | byt (b : Array UInt8) : Dw K H (.byt b) (.bytes b.toList)
  | lst {a : Addr} {xs : List V} {ds : List WData} : SqL K H a xs → DwAll K H xs ds → Dw K H (.ref a) (.list ds)
  | tup {a : Addr} {xs : List V} {ds : List WData} : SqT K H a xs → DwAll K H xs ds → Dw K H (.ref a) (.tuple ds)
inductive DwAll (K : PySem.W.Frag) (H : Hp) : List V → List WData → Prop
  | nil : DwAll K H [] []
  | cons {v : V} {vs : List V} {d : WData} {ds : List WData} : Dw K H v d → DwAll K H vs ds → DwAll K H (v :: vs) (d :: ds)
end
theorem dw_ints {K : PySem.W.Frag} {H : Hp} : ∀ ns : List Int, DwAll K H (ns.map V.int) (ns.map WData.int)
  | [] => .nil
  | n :: r => .cons (.int n) (dw_ints r)
theorem ints_dw {K : PySem.W.Frag} {H : Hp} : ∀ (ns : List Int) (xs : List V), DwAll K H xs (ns.map WData.int) → xs = ns.map V.int
  | [], xs, h => by
    cases h
    rfl
  | n :: r, xs, h => by
    cases h with
    | cons h1 h2 =>
      cases h1
      rw [ints_dw r _ h2] <;> rfl
section
variable {P : Program} {w : World} {K : PySem.W.Frag} {H : Hp} {h : Heap} {R : PySem.W.WRecords} {cl : Str → Option Addr}
theorem sqL_at {a : Addr} {xs : List V} (hok : HOk P w H h) (KX : K.In h) (q : SqL K H a xs) : ∃ (its : List Value) (o : Obj) (n : Nat), Vals xs its ∧ h.get? a = some o ∧ o.cls = .type "list" ∧ o.data = .seq its.toArray n := by
  rcases q with q | ⟨o, its, n, e, hc, _, hd, _, hv⟩
  · obtain ⟨_, its, n, hv, e⟩ := (show ObjOk P w H h a (.lst xs) from q.ok hok)
    exact ⟨its, _, n, hv, e, rfl, rfl⟩
  · exact ⟨its.toList, o, n, hv, KX _ _ e, hc, by simp [hd]⟩
theorem sqT_at {a : Addr} {xs : List V} (hok : HOk P w H h) (KX : K.In h) (q : SqT K H a xs) : ∃ (its : List Value) (o : Obj) (n : Nat), Vals xs its ∧ h.get? a = some o ∧ o.cls = .type "tuple" ∧ o.data = .seq its.toArray n := by
  rcases q with q | ⟨o, its, n, e, hc, hd, _, hv⟩
  · obtain ⟨_, its, hv, o, e, hc, n, hd⟩ := (show ObjOk P w H h a (.tup xs) from q.ok hok)
    exact ⟨its, o, n, hv, e, hc, hd⟩
  · exact ⟨its.toList, o, n, hv, KX _ _ e, hc, by simp [hd]⟩
mutual
theorem Dw.reads (hok : HOk P w H h) (KX : K.In h) : ∀ (d : WData) (v : V) (u : Value), Dw K H v d → RelV v u → ∃ as, ReadsW R cl h u d as
  | .none, _, _, x, r => by
    cases x
    cases r
    exact ⟨_, ReadsW.none⟩
  | .bool b, _, _, x, r => by
    cases x
    cases r
    exact ⟨_, ReadsW.bool b⟩
  | .int i, _, _, x, r => by
    cases x
    obtain ⟨t, rfl⟩ := r
    exact ⟨_, ReadsW.int i t⟩
  | .str s, _, _, x, r => by
    cases x
    obtain ⟨t, rfl⟩ := r
    exact ⟨_, ReadsW.str s t⟩
  | .bytes b, _, _, x, r => by
    cases x
    obtain ⟨t, rfl⟩ := r
    exact ⟨_, ReadsW.bytes _ t⟩
  | .list ds, _, _, x, r => by
    cases x with
    | lst hs ha =>
      cases r
      obtain ⟨its, o, n, rv, ho, hc, hd⟩ := sqL_at hok KX hs
      obtain ⟨as, hr⟩ := Dw.readsAll hok KX ds _ its ha rv
      exact ⟨_, ReadsW.list ho hc hd hr⟩
  | .tuple ds, _, _, x, r => by
    cases x with
    | tup hs ha =>
      cases r
      obtain ⟨its, o, n, rv, ho, hc, hd⟩ := sqT_at hok KX hs
      obtain ⟨as, hr⟩ := Dw.readsAll hok KX ds _ its ha rv
      exact ⟨_, ReadsW.tuple ho hc hd hr⟩
  | .float _, _, _, x, _ => by cases x
  | .dict _, _, _, x, _ => by cases x
  | .bytearray _, _, _, x, _ => by cases x
  | .set _, _, _, x, _ => by cases x
  | .frozenset _, _, _, x, _ => by cases x
  | .obj _ _, _, _, x, _ => by cases x
theorem Dw.readsAll (hok : HOk P w H h) (KX : K.In h) : ∀ (ds : List WData) (vs : List V) (us : List Value), DwAll K H vs ds → Vals vs us → ∃ as, ReadsAllW R cl h us ds as
  | [], _, _, x, r => by
    cases x
    cases r
    exact ⟨_, ReadsAllW.nil⟩
  | d :: ds, _, _, x, r => by
    cases x with
    | cons h1 h2 =>
      cases r with
      | cons r1 r2 =>
        obtain ⟨as, q1⟩ := Dw.reads hok KX d _ _ h1 r1
        obtain ⟨bs, q2⟩ := Dw.readsAll hok KX ds _ _ h2 r2
        exact ⟨_, ReadsAllW.cons q1 q2⟩
end
end
/-! ### the arguments -/
mutual
/-- data that a codec tells -/
def plW : WData → Bool
  | .none => true
  | .bool _ => true
  | .int _ => true
  | .str _ => true
  | .bytes _ => true
  | .list xs => plWs xs
  | .tuple xs => plWs xs
  | _ => false
def plWs : List WData → Bool
  | [] => true
  | x :: r => plW x && plWs r
end
theorem plWs_map {α : Type} {f : α → WData} (h : ∀ a, plW (f a) = true) : ∀ l : List α, plWs (l.map f) = true
  | [] => rfl
  | x :: r => by
    show (plW (f x) && plWs (r.map f)) = true
    rw [h x, plWs_map h r] <;> rfl
theorem pl_enc : ∀ (c : Codec) (a : c.denote), plW (c.enc a) = true
  | .unit, _ => rfl
  | .bool, _ => rfl
  | .int _ _, _ => rfl
  | .nat _ _, _ => rfl
  | .u8, _ => rfl
  | .bytes _ _, _ => rfl
  | .text _ _ _ _, _ => rfl
  | .list _ _ c, a => plWs_map (fun x => pl_enc c x) a
  | .pair c d, a => by
    show (plW (c.enc a.1) && (plW (d.enc a.2) && true)) = true
    rw [pl_enc c a.1, pl_enc d a.2] <;> rfl
  | .triple c d e, a => by
    show (plW (c.enc a.1) && (plW (d.enc a.2.1) && (plW (e.enc a.2.2) && true))) = true
    rw [pl_enc c a.1, pl_enc d a.2.1, pl_enc e a.2.2] <;> rfl
  | .option c, none => rfl
  | .option c, some x => pl_enc c x
theorem pl_encAll : ∀ (cs : List Codec) (a : Codec.denoteAll cs), plWs (Codec.encAll cs a) = true
  | [], _ => rfl
  | c :: cs, a => by
    show (plW (c.enc a.1) && plWs (Codec.encAll cs a.2)) = true
    rw [pl_enc c a.1, pl_encAll cs a.2] <;> rfl
theorem weight_mem : ∀ {xs : List WData} {d : WData}, d ∈ xs → d.weight ≤ WData.weightAll xs
  | [], d, h => absurd h (by simp)
  | x :: r, d, h => by
    show d.weight ≤ x.weight + 1 + WData.weightAll r
    rcases List.mem_cons.mp h with e | m
    · rw [e]
      omega
    · have z := weight_mem m
      omega
def toV : Value → V
  | .none => .non
  | .bool b => .bl b
  | .int i _ => .int i
  | .str x _ => .str x
  | .bytes b _ => .byt b
  | .ref a => .ref a
  | _ => .non
/-- a value of the arguments, its objects among A -/
def OkU (A : List Addr) : Value → Prop
  | .none => True
  | .bool _ => True
  | .int _ _ => True
  | .str _ _ => True
  | .bytes _ _ => True
  | .ref a => a ∈ A
  | _ => False
theorem OkU.mono {A B : List Addr} (h : ∀ a ∈ A, a ∈ B) : ∀ {u : Value}, OkU A u → OkU B u := fun {u} x => by
  cases u with
  | ref a => exact h a x
  | none => trivial
  | bool b => trivial
  | int i t => trivial
  | str s t => trivial
  | bytes b t => trivial
  | _ => exact False.elim x
theorem relV_toV {A : List Addr} {u : Value} (x : OkU A u) : RelV (toV u) u := by
  cases u with
  | ref a => rfl
  | none => rfl
  | bool b => rfl
  | int i t => exact ⟨t, rfl⟩
  | str s t => exact ⟨t, rfl⟩
  | bytes b t => exact ⟨t, rfl⟩
  | _ => exact False.elim x
theorem vals_toV {A : List Addr} : ∀ {vs : List Value}, (∀ u ∈ vs, OkU A u) → Vals (vs.map toV) vs
  | [], _ => .nil
  | u :: r, h => .cons (relV_toV (h u (List.mem_cons_self ..))) (vals_toV fun x hx => h x (List.mem_cons_of_mem _ hx))
/-- an object of the arguments -/
def ArgOb (h : Heap) (A : List Addr) (a : Addr) : Prop := ∃ vs : List Value, vs.length ≤ sizeLine ∧ (∀ u ∈ vs, OkU A u) ∧
  (h.get? a = some { cls := .type "list", data := .seq vs.toArray } ∨ h.get? a = some { cls := .type "tuple", data := .seq vs.toArray })
theorem ArgOb.mono {h : Heap} {A B : List Addr} {a : Addr} (k : ∀ a ∈ A, a ∈ B) (x : ArgOb h A a) : ArgOb h B a := by
  obtain ⟨vs, h1, h2, h3⟩ := x
  exact ⟨vs, h1, fun u hu => (h2 u hu).mono k, h3⟩
theorem wellAll_len {P : Params} {h : Heap} : ∀ {vs : List Value} {ds : List WData}, WellAll P h vs ds → vs.length = ds.length
  | _, _, .nil => rfl
  | _, _, .cons _ b => by
    show _ + 1 = _ + 1
    rw [wellAll_len b]
theorem well_list {P : Params} {h : Heap} {v : Value} {ds : List WData} (x : Well P h v (.list ds)) : ∃ (a : Addr) (vs : List Value), v = .ref a ∧ h.get? a = some { cls := .type "list", data := .seq vs.toArray } ∧ WellAll P h vs ds := by
  cases x with
  | list ho hall => exact ⟨_, _, rfl, ho, hall⟩
theorem well_tuple {P : Params} {h : Heap} {v : Value} {ds : List WData} (x : Well P h v (.tuple ds)) : ∃ (a : Addr) (vs : List Value), v = .ref a ∧ h.get? a = some { cls := .type "tuple", data := .seq vs.toArray } ∧ WellAll P h vs ds := by
  cases x with
  | tuple ho hall => exact ⟨_, _, rfl, ho, hall⟩
theorem well_cons {P : Params} {h : Heap} {us : List Value} {d : WData} {ds : List WData} (x : WellAll P h us (d :: ds)) : ∃ (v : Value) (vs : List Value), us = v :: vs ∧ Well P h v d ∧ WellAll P h vs ds := by
  cases x with
  | cons a b => exact ⟨_, _, rfl, a, b⟩
theorem line_of {n : Nat} (h : n ≤ 1048576) : n ≤ sizeLine := Nat.le_trans h (by decide)
section
variable {P : Params} {h : Heap}
mutual
theorem area_one : ∀ (d : WData) (v : Value), Well P h v d → plW d = true → d.weight ≤ 1048576 → ∃ A : List Addr, OkU A v ∧ ∀ a ∈ A, ArgOb h A a
  | .none, _, x, _, _ => by
    cases x
    exact ⟨[], trivial, fun a m => absurd m (by simp)⟩
  | .bool b, _, x, _, _ => by
    cases x
    exact ⟨[], trivial, fun a m => absurd m (by simp)⟩
  | .int i, _, x, _, _ => by
    cases x
    exact ⟨[], trivial, fun a m => absurd m (by simp)⟩
  | .str s, _, x, _, _ => by
    cases x
    exact ⟨[], trivial, fun a m => absurd m (by simp)⟩
  | .bytes b, _, x, _, _ => by
    cases x
    exact ⟨[], trivial, fun a m => absurd m (by simp)⟩
  | .list ds, _, x, p, z => by
    obtain ⟨a, vs, rfl, ho, hall⟩ := well_list x
    have z2 : WData.weightAll ds ≤ 1048576 := z
    obtain ⟨A, h1, h2⟩ := area_all ds _ hall p fun d hd => Nat.le_trans (weight_mem hd) z2
    have k : ∀ b ∈ A, b ∈ a :: A := fun b hb => List.mem_cons_of_mem _ hb
    refine ⟨a :: A, List.mem_cons_self .., fun b hb => ?_⟩
    rcases List.mem_cons.mp hb with e | m
    · rw [e]
      exact ⟨vs, line_of (by rw [wellAll_len hall]; exact Nat.le_trans (PySem.W.length_le_weightAllW ds) z2), fun u hu => (h1 u hu).mono k, .inl ho⟩
    · exact (h2 b m).mono k
  | .tuple ds, _, x, p, z => by
    obtain ⟨a, vs, rfl, ho, hall⟩ := well_tuple x
    have z2 : WData.weightAll ds ≤ 1048576 := z
    obtain ⟨A, h1, h2⟩ := area_all ds _ hall p fun d hd => Nat.le_trans (weight_mem hd) z2
    have k : ∀ b ∈ A, b ∈ a :: A := fun b hb => List.mem_cons_of_mem _ hb
    refine ⟨a :: A, List.mem_cons_self .., fun b hb => ?_⟩
    rcases List.mem_cons.mp hb with e | m
    · rw [e]
      exact ⟨vs, line_of (by rw [wellAll_len hall]; exact Nat.le_trans (PySem.W.length_le_weightAllW ds) z2), fun u hu => (h1 u hu).mono k, .inr ho⟩
    · exact (h2 b m).mono k
  | .float _, _, _, p, _ => Bool.noConfusion (show false = true from p)
  | .dict _, _, _, p, _ => Bool.noConfusion (show false = true from p)
  | .bytearray _, _, _, p, _ => Bool.noConfusion (show false = true from p)
  | .set _, _, _, p, _ => Bool.noConfusion (show false = true from p)
  | .frozenset _, _, _, p, _ => Bool.noConfusion (show false = true from p)
  | .obj _ _, _, _, p, _ => Bool.noConfusion (show false = true from p)
theorem area_all : ∀ (ds : List WData) (vs : List Value), WellAll P h vs ds → plWs ds = true → (∀ d ∈ ds, d.weight ≤ 1048576) → ∃ A : List Addr, (∀ u ∈ vs, OkU A u) ∧ ∀ a ∈ A, ArgOb h A a
  | [], _, x, _, _ => by
    cases x
    exact ⟨[], fun u m => absurd m (by simp), fun a m => absurd m (by simp)⟩
  | d :: ds, _, x, p, z => by
    obtain ⟨v, vs, rfl, x1, x2⟩ := well_cons x
    have q : plW d = true ∧ plWs ds = true := Bool.and_eq_true_iff.mp p
    obtain ⟨A, a1, a2⟩ := area_one d v x1 q.1 (z d (List.mem_cons_self ..))
    obtain ⟨B, b1, b2⟩ := area_all ds vs x2 q.2 fun e he => z e (List.mem_cons_of_mem _ he)
    have kA : ∀ b ∈ A, b ∈ A ++ B := fun b hb => List.mem_append.mpr (.inl hb)
    have kB : ∀ b ∈ B, b ∈ A ++ B := fun b hb => List.mem_append.mpr (.inr hb)
    refine ⟨A ++ B, fun u hu => ?_, fun b hb => ?_⟩
    · rcases List.mem_cons.mp hu with e | m
      · rw [e]
        exact a1.mono kA
      · exact (b1 u m).mono kB
    · rcases List.mem_append.mp hb with m | m
      · exact (a2 b m).mono kA
      · exact (b2 b m).mono kB
end
end
/-- what is tracked of an argument's object -/
def hoOf (o : Obj) : Option HO := match o.data with
  | .seq vs _ => if (o.cls == Value.type "list") = true then some (.frz o (.lst (vs.toList.map toV))) else some (.frz o (.tup (vs.toList.map toV)))
  | _ => none
def argH (K : PySem.W.Frag) (h : Heap) (A : List Addr) : Hp := fun b => if b ∈ A then (if (K.lookup b).isNone = true then (h.get? b).bind hoOf else none) else none
/-- nothing is tracked but what is known to the object -/
def OnlyF (H : Hp) : Prop := ∀ b, H b = none ∨ ∃ o u, H b = some (.frz o u)
theorem hoOf_lst (vs : List Value) : hoOf { cls := .type "list", data := .seq vs.toArray } = some (.frz { cls := .type "list", data := .seq vs.toArray } (.lst (vs.map toV))) := by
  show (if (Value.type "list" == Value.type "list") = true then some (HO.frz { cls := .type "list", data := .seq vs.toArray } (.lst (vs.toArray.toList.map toV))) else some (HO.frz { cls := .type "list", data := .seq vs.toArray } (.tup (vs.toArray.toList.map toV)))) = _
  rw [if_pos (beq_self_eq_true _)]
theorem hoOf_tup (vs : List Value) : hoOf { cls := .type "tuple", data := .seq vs.toArray } = some (.frz { cls := .type "tuple", data := .seq vs.toArray } (.tup (vs.map toV))) := by
  show (if (Value.type "tuple" == Value.type "list") = true then some (HO.frz { cls := .type "tuple", data := .seq vs.toArray } (.lst (vs.toArray.toList.map toV))) else some (HO.frz { cls := .type "tuple", data := .seq vs.toArray } (.tup (vs.toArray.toList.map toV)))) = _
  rw [if_neg (by decide)]
section
variable {P : Program} {w : World} {K : PySem.W.Frag} {h : Heap} {A : List Addr}
theorem argH_at {b : Addr} {o : Obj} (hb : b ∈ A) (hk : K.lookup b = none) (e : h.get? b = some o) : argH K h A b = hoOf o := by
  unfold argH
  rw [if_pos hb, hk, if_pos (show (none : Option Obj).isNone = true from rfl), e] <;> rfl
theorem of_argH {b : Addr} {u : HO} (q : argH K h A b = some u) : b ∈ A ∧ K.lookup b = none := by
  unfold argH at q
  by_cases hb : b ∈ A
  · rw [if_pos hb] at q
    cases hk : K.lookup b with
    | none => exact ⟨hb, rfl⟩
    | some o =>
      rw [hk, if_neg (by simp)] at q
      cases q
  · rw [if_neg hb] at q
    cases q
/-- what stands tracked -/
theorem argH_is (ar : ∀ a ∈ A, ArgOb h A a) {b : Addr} {u : HO} (q : argH K h A b = some u) : K.lookup b = none ∧ ∃ vs : List Value, vs.length ≤ sizeLine ∧ (∀ u ∈ vs, OkU A u) ∧
    ((h.get? b = some { cls := .type "list", data := .seq vs.toArray } ∧ u = .frz { cls := .type "list", data := .seq vs.toArray } (.lst (vs.map toV))) ∨
     (h.get? b = some { cls := .type "tuple", data := .seq vs.toArray } ∧ u = .frz { cls := .type "tuple", data := .seq vs.toArray } (.tup (vs.map toV)))) := by
  obtain ⟨hb, hk⟩ := of_argH q
  obtain ⟨vs, h1, h2, h3⟩ := ar b hb
  refine ⟨hk, vs, h1, h2, ?_⟩
  rcases h3 with e | e
  · rw [argH_at hb hk e, hoOf_lst] at q
    exact .inl ⟨e, (Option.some.inj q).symm⟩
  · rw [argH_at hb hk e, hoOf_tup] at q
    exact .inr ⟨e, (Option.some.inj q).symm⟩
theorem argH_only (ar : ∀ a ∈ A, ArgOb h A a) : OnlyF (argH K h A) := fun b => by
  cases q : argH K h A b with
  | none => exact .inl rfl
  | some u =>
    obtain ⟨_, vs, _, _, ⟨_, e⟩ | ⟨_, e⟩⟩ := argH_is ar q
    · exact .inr ⟨_, _, by rw [e]⟩
    · exact .inr ⟨_, _, by rw [e]⟩
theorem argH_ok (ar : ∀ a ∈ A, ArgOb h A a) : HOk P w (argH K h A) h := fun b u q => by
  obtain ⟨_, vs, h1, h2, ⟨e, rfl⟩ | ⟨e, rfl⟩⟩ := argH_is ar q
  · exact ⟨e, by rw [List.length_map]; exact h1, vs, _, vals_toV h2, e⟩
  · exact ⟨e, by rw [List.length_map]; exact h1, vs, vals_toV h2, _, e, rfl, _, rfl⟩
theorem seq_inj {c c' : Value} {vs us : List Value} (e : (some { cls := c, data := .seq vs.toArray } : Option Obj) = some { cls := c', data := .seq us.toArray }) : c = c' ∧ vs = us := by
  have e1 := Option.some.inj e
  have e2 : c = c' := congrArg Obj.cls e1
  have e3 : Data.seq vs.toArray = Data.seq us.toArray := congrArg Obj.data e1
  injection e3 with e4
  refine ⟨e2, ?_⟩
  have e5 := congrArg Array.toList e4
  simpa using e5
/-- a list argument -/
theorem argL (KX : K.In h) (ar : ∀ a ∈ A, ArgOb h A a) {a : Addr} {vs : List Value} (ha : a ∈ A) (e : h.get? a = some { cls := .type "list", data := .seq vs.toArray }) : (∀ u ∈ vs, OkU A u) ∧ SqL K (argH K h A) a (vs.map toV) := by
  obtain ⟨us, h1, h2, h3⟩ := ar a ha
  have hu : us = vs := by
    rcases h3 with q | q
    · rw [e] at q
      exact (seq_inj q).2.symm
    · rw [e] at q
      exact absurd (Value.type.inj (seq_inj q).1) (by decide)
  subst hu
  refine ⟨h2, ?_⟩
  cases hk : K.lookup a with
  | none => exact .inl (.inr ⟨_, by rw [argH_at ha hk e, hoOf_lst]⟩)
  | some o =>
    have e2 := KX a o hk
    rw [e] at e2
    obtain rfl := Option.some.inj e2
    exact .inr ⟨_, us.toArray, _, hk, rfl, rfl, rfl, by rw [List.size_toArray]; exact h1, by simpa using vals_toV h2⟩
theorem argT (KX : K.In h) (ar : ∀ a ∈ A, ArgOb h A a) {a : Addr} {vs : List Value} (ha : a ∈ A) (e : h.get? a = some { cls := .type "tuple", data := .seq vs.toArray }) : (∀ u ∈ vs, OkU A u) ∧ SqT K (argH K h A) a (vs.map toV) := by
  obtain ⟨us, h1, h2, h3⟩ := ar a ha
  have hu : us = vs := by
    rcases h3 with q | q
    · rw [e] at q
      exact absurd (Value.type.inj (seq_inj q).1) (by decide)
    · rw [e] at q
      exact (seq_inj q).2.symm
  subst hu
  refine ⟨h2, ?_⟩
  cases hk : K.lookup a with
  | none => exact .inl (.inr ⟨_, by rw [argH_at ha hk e, hoOf_tup]⟩)
  | some o =>
    have e2 := KX a o hk
    rw [e] at e2
    obtain rfl := Option.some.inj e2
    exact .inr ⟨_, us.toArray, _, hk, rfl, rfl, by rw [List.size_toArray]; exact h1, by simpa using vals_toV h2⟩
mutual
theorem dw_one {Pm : Params} (KX : K.In h) (ar : ∀ a ∈ A, ArgOb h A a) : ∀ (d : WData) (v : Value), Well Pm h v d → plW d = true → OkU A v → Dw K (argH K h A) (toV v) d
  | .none, _, x, _, _ => by
    cases x
    exact .non
  | .bool b, _, x, _, _ => by
    cases x
    exact .bl b
  | .int i, _, x, _, _ => by
    cases x
    exact .int i
  | .str s, _, x, _, _ => by
    cases x
    exact .str s
  | .bytes b, _, x, _, _ => by
    cases x
    have z := Dw.byt (K := K) (H := argH K h A) b.toArray
    exact z
  | .list ds, _, x, p, hu => by
    obtain ⟨a, vs, rfl, ho, hall⟩ := well_list x
    obtain ⟨h2, hs⟩ := argL KX ar hu ho
    exact .lst hs (dw_all KX ar ds _ hall p h2)
  | .tuple ds, _, x, p, hu => by
    obtain ⟨a, vs, rfl, ho, hall⟩ := well_tuple x
    obtain ⟨h2, hs⟩ := argT KX ar hu ho
    exact .tup hs (dw_all KX ar ds _ hall p h2)
  | .float _, _, _, p, _ => Bool.noConfusion (show false = true from p)
  | .dict _, _, _, p, _ => Bool.noConfusion (show false = true from p)
  | .bytearray _, _, _, p, _ => Bool.noConfusion (show false = true from p)
  | .set _, _, _, p, _ => Bool.noConfusion (show false = true from p)
  | .frozenset _, _, _, p, _ => Bool.noConfusion (show false = true from p)
  | .obj _ _, _, _, p, _ => Bool.noConfusion (show false = true from p)
theorem dw_all {Pm : Params} (KX : K.In h) (ar : ∀ a ∈ A, ArgOb h A a) : ∀ (ds : List WData) (vs : List Value), WellAll Pm h vs ds → plWs ds = true → (∀ u ∈ vs, OkU A u) → DwAll K (argH K h A) (vs.map toV) ds
  | [], _, x, _, _ => by
    cases x
    exact .nil
  | d :: ds, _, x, p, hu => by
    obtain ⟨v, vs, rfl, x1, x2⟩ := well_cons x
    have q : plW d = true ∧ plWs ds = true := Bool.and_eq_true_iff.mp p
    exact .cons (dw_one KX ar d v x1 q.1 (hu _ (List.mem_cons_self ..))) (dw_all KX ar ds vs x2 q.2 fun u m => hu u (List.mem_cons_of_mem _ m))
end
end
/-! ### the call -/
theorem spec_call {P : Program} {w : World} {K : PySem.W.Frag} {mg mb : Str → Option Value} {CX : CXT} {k : Nat} {fa : Addr} {fd : FuncData} {ps : List Str} {sp : Sp} {s₁ : Shared} {vals : List Value} {ds : List WData} {R : PySem.W.WRecords} {cl : Str → Option Addr} {d0 : WData}
    (KX : K.In s₁.heap) (hns : s₁.heap.Ns mainGlobals mg) (hb : s₁.heap.Ns builtinsNs mb) (hbb : ∀ x : Str, x ≠ "__name__" → mb x = bootBuiltins x) (hlim : s₁.heap.NoLimit) (hg : s₁.gens = #[])
    (hwl : WellAll w.params s₁.heap vals ds) (hpl : plWs ds = true) (hwt : ∀ d ∈ ds, d.weight ≤ 1048576) (hr : Room k callerA)
    (F : ∀ base : Heap, K.In base → base.Ns mainGlobals mg → FnOk P w K mg base CX k fa fd ps sp) (hbind : ∀ (s : Shared) (us : List Value), us.length = ps.length → BindsTo s fd ⟨us, []⟩ (ps.zip us)) (hlen : ds.length = ps.length)
    (hsp : ∀ (H : Hp) (xs : List V), OnlyF H → DwAll K H xs ds → sp xs H (fun v H' => Dw K H' v d0) fun _ _ _ => False)
    (hCX : ∀ H e s', CX [] H s₁ (fun _ _ _ => False) e s' → False) :
    codeAny (model P w) callerA (.call (.ref fa) ⟨vals, []⟩) (fun r s' => ∃ u as, r = .ok (.ret u) ∧ ReadsW R cl s'.heap u d0 as ∧ OldK s₁.heap s'.heap ∧ s'.os = s₁.os ∧ AllBare s'.gens) s₁ := by
  obtain ⟨A, ho, ar⟩ := area_all ds vals hwl hpl hwt
  have hO : OnlyF (argH K s₁.heap A) := argH_only ar
  have hok : HOk P w (argH K s₁.heap A) s₁.heap := argH_ok ar
  have hS := dw_all KX ar ds vals hwl hpl ho
  have hV := vals_toV ho
  have hK : ∀ b u, argH K s₁.heap A b = some u → K.lookup b = none := fun b u q => (argH_is ar q).1
  have noA : ∀ {b : Addr} {o : Obj} {es : Array DictEntry} {ep : Nat}, s₁.heap.get? b = some o → o.data = .dict es ep → argH K s₁.heap A b = none := fun {b o es ep} e d => by
    cases q : argH K s₁.heap A b with
    | none => rfl
    | some u =>
      obtain ⟨_, vs, _, _, ⟨e2, _⟩ | ⟨e2, _⟩⟩ := argH_is ar q
      · rw [e2] at e
        cases e
        have d' : Data.seq vs.toArray _ = Data.dict es ep := d
        cases d'
      · rw [e2] at e
        cases e
        have d' : Data.seq vs.toArray _ = Data.dict es ep := d
        cases d'
  generalize argH K s₁.heap A = H at hO hok hS hK noA
  have base_of : ∀ {b : Addr} {o : Obj}, s₁.heap.get? b = some o → H b = none → (hidT s₁.heap H).get? b = some o := fun e n => hidT_get e n
  have nsK : ∀ {b : Addr} {m : Str → Option Value}, s₁.heap.Ns b m → (hidT s₁.heap H).Ns b m := fun {b m} ⟨o, es, ep, e, d, r⟩ => ⟨o, es, ep, base_of e (noA e d), d, r⟩
  have nK : ∀ b o, K.lookup b = some o → H b = none := fun b o e => by
    cases q : H b with
    | none => rfl
    | some u =>
      rw [hK b u q] at e
      cases e
  have hKb : K.In (hidT s₁.heap H) := fun b o e => base_of (KX b o e) (nK b o e)
  have hM : Mod K mg (hidT s₁.heap H) := ⟨hKb, nsK hns, ⟨mb, nsK hb, hbb⟩, let ⟨mc, h1, h2⟩ := hlim; ⟨mc, nsK h1, h2⟩⟩
  have e0 : Env0 P w K mg (hidT s₁.heap H) callerA [] s₁ H := ⟨rfl, hM, fun b o e => of_hidT e, Nat.le_of_eq (hidT_size _ _), trivial, fun b hb => absurd (show b ∈ ([] : List Addr) from hb) (by simp), hok, .of_eq hg⟩
  have hl : vals.length = ps.length := by rw [wellAll_len hwl]; exact hlen
  refine codeAny_mono ((F _ hKb (nsK hns)).run callerA [] s₁ H ⟨vals, []⟩ vals (vals.map toV) _ _ hr e0 (hbind s₁ vals hl) hV (hsp H _ hO hS)) fun r s' x => ?_
  cases r with
  | error e => exact (hCX H e s' x).elim
  | ok fl =>
    cases fl with
    | next => exact False.elim x
    | brk => exact False.elim x
    | cont => exact False.elim x
    | ret u =>
      obtain ⟨v, H', os, bare, un, hok', r', q⟩ := x
      have kept : ∀ b o, s₁.heap.get? b = some o → s'.heap.get? b = some o := fun b o e => by
        cases q2 : H b with
        | none => exact un.keep b o e q2 (by intro z; exact absurd (show b ∈ ([] : List Addr) from z) (by simp)) (by simp)
        | some u2 =>
          rcases hO b with z | ⟨ob, u3, z⟩
          · rw [q2] at z
            cases z
          · have z2 := un.frzs b ob _ z
            obtain ⟨e1, _⟩ := hok b _ z
            obtain ⟨e2, _⟩ := hok' b _ z2
            rw [e] at e1
            cases e1
            exact e2
      have KX' : K.In s'.heap := fun b o e => kept b o (KX b o e)
      obtain ⟨as, hrd⟩ := Dw.reads (R := R) (cl := cl) hok' KX' d0 v u q r'
      exact ⟨u, as, rfl, hrd, OldK.of_keep kept, os, bare⟩
/-! ### the row -/
theorem layable_weight {ds : List WData} (h : WData.layableAll ds = true) : ∀ d ∈ ds, d.weight ≤ 1048576 := fun d hd =>
  (PySem.W.layableW_iff.mp (List.all_eq_true.mp h d hd)).2.2
theorem encAll_len : ∀ (cs : List Codec) (a : Codec.denoteAll cs), (Codec.encAll cs a).length = cs.length
  | [], _ => rfl
  | c :: cs, a => by
    show (Codec.encAll cs a.2).length + 1 = cs.length + 1
    rw [encAll_len cs a.2]
/-- the goal that k_headS leaves (case hc), from the promise of the row's def: whatever the arguments that the codecs let and the row asks for, the def gives what stands for enc (f ..) -/
theorem walk_spec {r : OpenSpec} {k : Nat} {q : Program} {loose : List Str} {XP : (Str → Option Value) → Heap → Prop} {YP : World → Heap → Prop} {d : DefRec} {K : Params → PySem.W.Frag} {CX : World → CXT} {ps : List Str} {sp : World → Sp}
    (hwell : r.wellSaid = true) (hdf : d.params.defaults = []) (hlen : r.args.length = ps.length) (hr : Room k callerA)
    (hY : ∀ (w : World) (h : Heap), YP w h → (K w.params).In h)
    (F : ∀ (w : World) (mg : Str → Option Value) (fa : Addr) (h : Heap), YP w h → (K w.params).In h → h.Ns mainGlobals mg → mg d.name = some (.ref fa) →
      ∃ fd : FuncData, (∀ (s : Shared) (us : List Value), us.length = ps.length → BindsTo s fd ⟨us, []⟩ (ps.zip us)) ∧
        ∀ base : Heap, (K w.params).In base → base.Ns mainGlobals mg → FnOk r.prog w (K w.params) mg base (CX w) k fa fd ps (sp w))
    (hsp : ∀ (w : World) (H : Hp) (xs : List V) (a : Codec.denoteAll r.args), OnlyF H → Codec.withinAll r.args a = true → Codec.app r.args r.asked a = true → DwAll (K w.params) H xs (Codec.encAll r.args a) →
      sp w xs H (fun v H' => Dw (K w.params) H' v (r.ret.enc (Codec.app r.args r.f a))) fun _ _ _ => False)
    (hCX : ∀ (w : World) (H : Hp) (s : Shared) (e : Value) (s' : Shared), CX w [] H s (fun _ _ _ => False) e s' → False) :
    PySem.W.WalkOS q loose XP YP r d [] (fun f vs => PySem.call f vs) := by
  intro w s_0 s₁ mg mb G Y fa o pm cd doc dV kV ho hd hcd hD hmg hg args vals as hpre hlay hrd hwl hlo
  obtain ⟨a, e1, e2⟩ := PySem.W.os_pre_some hpre
  obtain ⟨e3, hwi⟩ := Codec.encAll_of_decAll r.args args a e1
  subst e3
  have KX := hY w _ Y
  obtain ⟨fd, hb, hF⟩ := F w mg fa _ Y KX G.T.g hmg
  refine PySem.W.enter_call (codeAny_mono (spec_call (R := []) (cl := classAt s_0.heap) (d0 := r.ret.enc (Codec.app r.args r.f a)) KX G.T.g G.T.b G.T.builtins G.T.nolimit hg hwl (pl_encAll _ _) (layable_weight hlay) hr hF hb (by rw [encAll_len]; exact hlen)
    (fun H xs hO hS => hsp w H xs a hO hwi e2 hS) fun H e s' => hCX w H s₁ e s') fun r' s' hq => ?_)
  obtain ⟨u, as', rfl, h1, h2, h3, h4⟩ := hq
  exact ⟨.inl ⟨u, _, as', rfl, fun _ => rfl, h1, (OpenSpec.post_iff hwell hwi _ _).mpr rfl, fun z => Bool.noConfusion (show false = true from z)⟩, h2, h3, h4⟩
/-- the same where the promise hangs on the written part alone -/
theorem walk_specK {r : OpenSpec} {k : Nat} {q : Program} {loose : List Str} {XP : (Str → Option Value) → Heap → Prop} {YP : World → Heap → Prop} {d : DefRec} {K : Params → PySem.W.Frag} {CX : CXT} {ps : List Str} {sp : PySem.W.Frag → Sp}
    (hwell : r.wellSaid = true) (hdf : d.params.defaults = []) (hlen : r.args.length = ps.length) (hr : Room k callerA)
    (hY : ∀ (w : World) (h : Heap), YP w h → (K w.params).In h)
    (F : ∀ (w : World) (mg : Str → Option Value) (fa : Addr) (h : Heap), YP w h → (K w.params).In h → h.Ns mainGlobals mg → mg d.name = some (.ref fa) →
      ∃ fd : FuncData, (∀ (s : Shared) (us : List Value), us.length = ps.length → BindsTo s fd ⟨us, []⟩ (ps.zip us)) ∧
        ∀ base : Heap, (K w.params).In base → base.Ns mainGlobals mg → FnOk r.prog w (K w.params) mg base CX k fa fd ps (sp (K w.params)))
    (hsp : ∀ (K : PySem.W.Frag) (H : Hp) (xs : List V) (a : Codec.denoteAll r.args), OnlyF H → Codec.withinAll r.args a = true → Codec.app r.args r.asked a = true → DwAll K H xs (Codec.encAll r.args a) →
      sp K xs H (fun v H' => Dw K H' v (r.ret.enc (Codec.app r.args r.f a))) fun _ _ _ => False)
    (hCX : ∀ (H : Hp) (s : Shared) (e : Value) (s' : Shared), CX [] H s (fun _ _ _ => False) e s' → False) :
    PySem.W.WalkOS q loose XP YP r d [] (fun f vs => PySem.call f vs) :=
  walk_spec (K := K) (CX := fun _ => CX) (sp := fun w => sp (K w.params)) hwell hdf hlen hr hY F (fun w H xs a h1 h2 h3 h4 => hsp (K w.params) H xs a h1 h2 h3 h4) fun _ H s e s' => hCX H s e s'
end L2
-- rests on (row put in by the clerk, for the bench that shows a file only what it spells): KE.SpHead KE.OsShapes
end
section
set_option Elab.async false
set_option maxRecDepth 100000
/-! SHORT WORDS over the layer: a def of the text, its body, what a loop and a test want. -/
namespace L2
open PySem PySem.Spec PyProof.Rows
end L2
end
set_option Elab.async false
set_option maxRecDepth 100000
set_option maxHeartbeats 2000000
/-! Boxes: a list of objects, each item of the request changes one; the answer is read off them. A PROGRAM AGAINST A FUNCTION OF PLAIN LEAN, by hand. -/

set_option Elab.async false
set_option linter.all false
set_option maxRecDepth 100000
set_option maxHeartbeats 4000000
namespace HT
open PySem PyProof.Rows
def lexLe : List Int → List Int → Bool
  | [], [] => true
  | [], _ :: _ => true
  | _ :: _, [] => false
  | x :: xs, y :: ys => if x = y then lexLe xs ys else decide (x ≤ y)
theorem lexLe_cons (x y : Int) (xs ys : List Int) : lexLe (x :: xs) (y :: ys) = if x = y then lexLe xs ys else decide (x ≤ y) := rfl
theorem lexLe_nil_nil : lexLe [] [] = true := rfl
theorem lexLe_nil_cons (y : Int) (ys : List Int) : lexLe [] (y :: ys) = true := rfl
theorem lexLe_cons_nil (x : Int) (xs : List Int) : lexLe (x :: xs) [] = false := rfl

theorem rcLe_int (A : Around) (s : Shared) (a : Int) (t : Tok) (c : Int) (u : Tok) (prog : Program) (w : World) (E : Value → Shared → Prop) (Q : Value → Shared → Prop) (h : Q (.bool (decide (a ≤ c))) s) :
    wpAny (model prog w) A (richCompare .LtE (.int a t) (.int c u)) Q E s :=
  (PyProof.Rows.le_int h : wpAny (model prog w) A (compareOp .LtE (.int a t) (.int c u)) Q E s)

section
open PySem.SeqAt
open PySem.AutoSeq1 (wpAny_loadPart')
open PySem.MeetsSeq PySem.MeetsSeq2 PySem.MeetsSeq3
theorem tuple_le_ints (l b : Addr) (items items2 : Array Value) (n n2 : Nat) (dd dd2 : Option Addr) (sl sl2 : Array (Option Value)) (ns ms : List Int) (hi : IntsAre items.toList ns) (hj : IntsAre items2.toList ms) :
    Meets (Builtin.«tuple.__le__» ⟨[.ref l, .ref b], []⟩)
      (fun _ R s => s.heap.get? l = some { cls := .type "tuple", dict := dd, data := .seq items n, slots := sl } ∧ s.heap.get? b = some { cls := .type "tuple", dict := dd2, data := .seq items2 n2, slots := sl2 } ∧
        R (.ok (.ret (.bool (lexLe ns ms)))) s) :=
  .of_wp fun prog w A R s h => by
    obtain ⟨hp, g, d, tk, os⟩ := s; obtain ⟨hl, hb, h⟩ := h
    have f2 := AutoSeq1.sub_tuple_tuple
    have z1 : items.size = ns.length := by rw [← hi.length]; simp
    have z2 : items2.size = ms.length := by rw [← hj.length]; simp
    wp_walk using wpAny_loadPart' hl, wpAny_loadPart' hb, wpAny_forIn_list _ (fun rest b s' => b.1 = none ∧ s' = ⟨hp, g, d, tk, os⟩ ∧ ∃ (vs ws : List Value) (ns' ms' : List Int), rest = vs.zip ws ∧
      IntsAre vs ns' ∧ IntsAre ws ms' ∧ ns'.length + items2.size = ms'.length + items.size ∧ R (.ok (.ret (.bool (lexLe ns' ms')))) ⟨hp, g, d, tk, os⟩) _
    case turn =>
      rintro ⟨y, x⟩ rest b s' ⟨hb', rfl, vs, ws, ns', ms', hz, hvi, hwi, hlen, hR⟩
      cases hvi with
      | nil => rw [List.zip_nil_left] at hz; cases hz
      | cons a t hvi' =>
        cases hwi with
        | nil => rw [List.zip_nil_right] at hz; cases hz
        | cons c u hwi' =>
          rw [List.zip_cons_cons] at hz
          injection hz with hyx hrest
          injection hyx with hy hx
          subst hy hx
          rw [lexLe_cons] at hR
          simp only [List.length_cons] at hlen
          obtain ⟨e, he, hiff⟩ := eqAt_int A.in1 ⟨hp, g, d, tk, os⟩ a t c u
          refine wpAny_bind (he prog w _ _ ?_)
          cases e with
          | true =>
            rw [if_pos (hiff.mp rfl)] at hR
            wp_walk
            exact ⟨rfl, rfl, _, _, _, _, hrest, hvi', hwi', by omega, hR⟩
          | false =>
            rw [if_neg (fun q => absurd (hiff.mpr q) Bool.false_ne_true)] at hR
            have hri := rcLe_int A.in1 ⟨hp, g, d, tk, os⟩ a t c u prog w
            wp_walk using hri
            exact ⟨_, rfl, by simpa using hR⟩
    case fin =>
      rintro ⟨b1, b2⟩ s' ⟨hb', rfl, vs, ws, ns', ms', hz, hvi, hwi, hlen, hR⟩
      simp only at hb'
      subst hb'
      have hv : lexLe ns' ms' = decide (items.size ≤ items2.size) := by
        cases hvi with
        | nil =>
          cases hwi with
          | nil =>
            simp only [List.length_nil] at hlen
            rw [lexLe_nil_nil]
            exact (decide_eq_true (by omega)).symm
          | cons c u hw =>
            simp only [List.length_nil, List.length_cons] at hlen
            rw [lexLe_nil_cons]
            exact (decide_eq_true (by omega)).symm
        | cons a t hv =>
          cases hwi with
          | nil =>
            simp only [List.length_nil, List.length_cons] at hlen
            rw [lexLe_cons_nil]
            exact (decide_eq_false (by omega)).symm
          | cons c u hw =>
            rw [List.zip_cons_cons] at hz
            cases hz
      rw [hv] at hR
      wp_walk
      exact ⟨_, rfl, by simpa [Builtin.Tuple.tupleCompareSizes] using hR⟩
    case h =>
      exact ⟨rfl, rfl, items.toList, items2.toList, ns, ms, rfl, hi, hj, by omega, h⟩
end
section
variable {prog : Program} {w : World} {A : Around} {E : Value → Shared → Prop} {s : Shared}
theorem le_tupInts {l b : Addr} {items items2 : Array Value} {ns ms : List Int} {Q : Value → Shared → Prop} (hl : IsTup s.heap l items) (hb : IsTup s.heap b items2) (hi : IntsAre items.toList ns) (hj : IntsAre items2.toList ms)
    (hu : A.units < cLine) (h : Q (.bool (lexLe ns ms)) s) : wpAny (model prog w) A (compareOp .LtE (.ref l) (.ref b)) Q E s := by
  obtain ⟨⟨cls, dd, data, sl⟩, ho, hc, n, hd⟩ := id hl
  obtain ⟨⟨cls2, dd2, data2, sl2⟩, ho2, hc2, n2, hd2⟩ := id hb
  simp only at hc hd hc2 hd2
  subst hc hd hc2 hd2
  exact richCompare_meets_room (op := .LtE) ⟨_, ho, rfl⟩ ⟨_, ho2, rfl⟩ PySem.F.slot_tuple_le PySem.F.entry_tuple_le (PySem.F.args_tuple_le_2 _ _) (tuple_le_ints l b items items2 n n2 dd dd2 sl sl2 ns ms hi hj)
    ⟨ho, ho2, show Value.bool (lexLe ns ms) ≠ Value.notImplemented ∧ Q (.bool (lexLe ns ms)) s from ⟨(fun x => nomatch x), h⟩⟩ hu

end
end HT
namespace L2
open PySem PySem.Spec PyProof.Rows
section
variable {X : Cx}
def rLeT (K : PySem.W.Frag) : R2 := fun x y H Q => ∃ a b ns ms, x = .ref a ∧ y = .ref b ∧ SqT K H a (ns.map V.int) ∧ SqT K H b (ms.map V.int) ∧ Q (.bl (HT.lexLe ns ms)) H
theorem op_leT (hu : X.A.units < cLine) : OpR X (compareOp .LtE) (rLeT X.K) := by
  intro pins s σ H x y v u Q I rx ry h
  obtain ⟨a, b, ns, ms, rfl, rfl, ha, hb, q⟩ := h
  cases rx
  cases ry
  obtain ⟨its, r1, p1, _⟩ := I.tuple ha
  obtain ⟨its2, r2, p2, _⟩ := I.tuple hb
  have i1 : IntsAre its.toArray.toList ns := intsAre_of r1
  have i2 : IntsAre its2.toArray.toList ms := intsAre_of r2
  exact HT.le_tupInts p1 p2 i1 i2 hu ⟨.bl (HT.lexLe ns ms), H, I, rfl, q⟩
end
end L2

set_option Elab.async false
/-! The desk's mathematics, over the specification alone. -/
namespace Sb
open Km345

/-! ### sorted, insert -/
theorem before_iff (a b : Order) : a.before b = true ↔ a.time < b.time ∨ (a.time = b.time ∧ a.number < b.number) := by
  unfold Order.before
  simp
theorem insert_pos {o p : Order} {l : List Order} (h : o.before p = true) : Km345.insert o (p :: l) = o :: p :: l := if_pos h
theorem insert_neg {o p : Order} {l : List Order} (h : ¬ o.before p = true) : Km345.insert o (p :: l) = p :: Km345.insert o l := if_neg h
theorem mem_insert (o p : Order) : ∀ l : List Order, p ∈ insert o l ↔ p = o ∨ p ∈ l
  | [] => by simp [Km345.insert]
  | q :: l => by
    unfold Km345.insert
    split
    · simp
    · have ih := mem_insert o p l
      simp only [List.mem_cons, ih]
      constructor
      · rintro (h | h | h)
        · exact .inr (.inl h)
        · exact .inl h
        · exact .inr (.inr h)
      · rintro (h | h | h)
        · exact .inr (.inl h)
        · exact .inl h
        · exact .inr (.inr h)
theorem sorted_snoc (l : List Order) (o : Order) : sorted (l ++ [o]) = insert o (sorted l) := by
  unfold sorted
  rw [List.foldl_append]
  rfl
theorem mem_sorted_aux : ∀ (l acc : List Order) (p : Order), p ∈ l.foldl (fun s o => insert o s) acc ↔ p ∈ acc ∨ p ∈ l
  | [], acc, p => by simp
  | o :: l, acc, p => by
    rw [List.foldl_cons, mem_sorted_aux l, mem_insert]
    simp only [List.mem_cons]
    constructor
    · rintro ((h | h) | h)
      · exact .inr (.inl h)
      · exact .inl h
      · exact .inr (.inr h)
    · rintro (h | h | h)
      · exact .inl (.inr h)
      · exact .inl (.inl h)
      · exact .inr h
theorem mem_sorted (l : List Order) (p : Order) : p ∈ sorted l ↔ p ∈ l := by
  unfold sorted
  rw [mem_sorted_aux]
  simp
/-- no later one stands before an earlier one -/
def Asc (l : List Order) : Prop := l.Pairwise fun a b => ¬ b.before a = true
theorem before_trans {a b c : Order} (h1 : a.before b = true) (h2 : b.before c = true) : a.before c = true := by
  rw [before_iff] at *
  omega
theorem asc_insert (o : Order) : ∀ {l : List Order}, Asc l → Asc (insert o l)
  | [], _ => by simp [Km345.insert, Asc]
  | p :: l, h => by
    obtain ⟨h1, h2⟩ := List.pairwise_cons.mp h
    unfold Km345.insert
    split
    · rename_i hb
      refine List.pairwise_cons.mpr ⟨fun q hq => ?_, h⟩
      rcases List.mem_cons.mp hq with rfl | hq
      · rw [before_iff] at hb ⊢
        omega
      · have := h1 q hq
        rw [before_iff] at hb this ⊢
        omega
    · rename_i hb
      refine List.pairwise_cons.mpr ⟨fun q hq => ?_, asc_insert o h2⟩
      rcases (mem_insert o q l).mp hq with rfl | hq
      · exact hb
      · exact h1 q hq
theorem asc_sorted_aux : ∀ (l acc : List Order), Asc acc → Asc (l.foldl (fun s o => insert o s) acc)
  | [], _, h => h
  | o :: l, acc, h => by
    rw [List.foldl_cons]
    exact asc_sorted_aux l _ (asc_insert o h)
theorem asc_sorted (l : List Order) : Asc (sorted l) := asc_sorted_aux l [] List.Pairwise.nil
/-- inserting and then choosing is choosing and then inserting -/
theorem filter_insert (P : Order → Bool) (o : Order) : ∀ {l : List Order}, Asc l → (Km345.insert o l).filter P = if P o = true then Km345.insert o (l.filter P) else l.filter P
  | [], _ => by
    by_cases h : P o = true <;> simp [Km345.insert, h]
  | p :: l, h => by
    obtain ⟨h1, h2⟩ := List.pairwise_cons.mp h
    have ih := filter_insert P o h2
    by_cases hb : o.before p = true
    · rw [insert_pos hb]
      by_cases hp : P p = true
      · by_cases ho : P o = true
        · rw [List.filter_cons_of_pos ho, List.filter_cons_of_pos hp, if_pos ho, insert_pos hb]
        · rw [List.filter_cons_of_neg ho, List.filter_cons_of_pos hp, if_neg ho]
      · by_cases ho : P o = true
        · rw [List.filter_cons_of_pos ho, List.filter_cons_of_neg hp, if_pos ho]
          have hall : ∀ q ∈ l, o.before q = true := fun q hq => by
            have := h1 q hq
            rw [before_iff] at hb this ⊢
            omega
          cases e : l.filter P with
          | nil => rfl
          | cons q r =>
            have hq : q ∈ l := (List.mem_filter.mp (by rw [e]; exact List.Mem.head _)).1
            rw [insert_pos (hall q hq)]
        · rw [List.filter_cons_of_neg ho, List.filter_cons_of_neg hp, if_neg ho]
    · rw [insert_neg hb]
      by_cases hp : P p = true
      · rw [List.filter_cons_of_pos hp, List.filter_cons_of_pos hp, ih]
        by_cases ho : P o = true
        · rw [if_pos ho, if_pos ho, insert_neg hb]
        · rw [if_neg ho, if_neg ho]
      · rw [List.filter_cons_of_neg hp, List.filter_cons_of_neg hp, ih]
theorem asc_filter (P : Order → Bool) {l : List Order} (h : Asc l) : Asc (l.filter P) := List.Pairwise.filter P h
theorem insert_ne (o : Order) (l : List Order) : insert o l ≠ [] := by
  cases l with
  | nil => simp [Km345.insert]
  | cons p l =>
    unfold Km345.insert
    split <;> simp
theorem getLast_insert (o : Order) : ∀ {l : List Order}, Asc l → (insert o l).getLast? = match l.getLast? with
    | none => some o
    | some q => if o.before q = true then some q else some o
  | [], _ => rfl
  | p :: l, h => by
    obtain ⟨h1, h2⟩ := List.pairwise_cons.mp h
    have ih := getLast_insert o h2
    unfold Km345.insert
    by_cases hb : o.before p = true
    · rw [if_pos hb, List.getLast?_cons_cons]
      cases e : (p :: l).getLast? with
      | none => simp at e
      | some q =>
        have hq : q ∈ p :: l := List.mem_of_getLast? e
        have hoq : o.before q = true := by
          rcases List.mem_cons.mp hq with rfl | hq
          · exact hb
          · have := h1 q hq
            rw [before_iff] at hb this ⊢
            omega
        simp only [hoq, if_true]
    · rw [if_neg hb]
      cases l with
      | nil => simp [Km345.insert, hb]
      | cons q r =>
        have hne := insert_ne o (q :: r)
        cases e : insert o (q :: r) with
        | nil => exact absurd e hne
        | cons x y =>
          rw [List.getLast?_cons_cons, List.getLast?_cons_cons, ← e, ih]

/-! ### where a gain goes -/
/-- the last order for a gain, by time, of like ones by number -/
def lastFor (l : List Order) (c b : Nat) : Option Order := ((sorted l).filter fun o => o.channel == c && o.bus == b).getLast?
theorem goal_eq (d : Desk) (c b : Nat) : d.goal c b = ((lastFor d.orders c b).map Order.gain).getD 0 := rfl
theorem lastFor_mem {l : List Order} {c b : Nat} {q : Order} (h : lastFor l c b = some q) : q ∈ l ∧ q.channel = c ∧ q.bus = b := by
  have := List.mem_of_getLast? h
  rw [List.mem_filter, mem_sorted] at this
  simp at this
  exact this
theorem lastFor_snoc {l : List Order} {o : Order} (hn : ∀ p ∈ l, p.number < o.number) (c b : Nat) :
    lastFor (l ++ [o]) c b = if o.channel = c ∧ o.bus = b then (match lastFor l c b with
      | none => some o
      | some q => if o.time < q.time then some q else some o) else lastFor l c b := by
  unfold lastFor
  rw [sorted_snoc, filter_insert _ _ (asc_sorted l)]
  by_cases hc : o.channel = c ∧ o.bus = b
  · rw [if_pos hc, if_pos (by simp [hc.1, hc.2]), getLast_insert _ (asc_filter _ (asc_sorted l))]
    cases e : ((sorted l).filter fun o => o.channel == c && o.bus == b).getLast? with
    | none => rfl
    | some q =>
      have hq : q ∈ l := by
        have := List.mem_of_getLast? e
        rw [List.mem_filter, mem_sorted] at this
        exact this.1
      have hnq := hn q hq
      dsimp only
      by_cases ht : o.time < q.time
      · rw [if_pos ht, if_pos (by rw [before_iff]; omega)]
      · rw [if_neg ht, if_neg (by rw [before_iff]; omega)]
  · rw [if_neg hc, if_neg (by simp; intro h1 h2; exact hc ⟨h1, h2⟩)]
/-- of it the time, 0 without one -/
def lastTime (l : List Order) (c b : Nat) : Nat := ((lastFor l c b).map Order.time).getD 0
def lastGain (l : List Order) (c b : Nat) : Nat := ((lastFor l c b).map Order.gain).getD 0
theorem last_snoc {l : List Order} {o : Order} (hn : ∀ p ∈ l, p.number < o.number) (c b : Nat) :
    (lastTime (l ++ [o]) c b, lastGain (l ++ [o]) c b) = if (o.channel = c ∧ o.bus = b) ∧ lastTime l c b ≤ o.time then (o.time, o.gain) else (lastTime l c b, lastGain l c b) := by
  unfold lastTime lastGain
  rw [lastFor_snoc hn]
  by_cases hc : o.channel = c ∧ o.bus = b
  · rw [if_pos hc]
    cases e : lastFor l c b with
    | none =>
      rw [if_pos ⟨hc, Nat.zero_le _⟩]
      rfl
    | some q =>
      dsimp only [Option.map, Option.getD]
      by_cases ht : o.time < q.time
      · rw [if_pos ht, if_neg (by omega)]
      · rw [if_neg ht, if_pos ⟨hc, by omega⟩]
  · rw [if_neg hc, if_neg (fun h => hc h.1)]

/-! ### the greatest time -/
theorem foldl_max_le : ∀ (l : List Nat) (a : Nat), a ≤ l.foldl max a
  | [], a => Nat.le_refl a
  | x :: l, a => by
    rw [List.foldl_cons]
    exact Nat.le_trans (Nat.le_max_left a x) (foldl_max_le l _)
def lastAll (l : List Order) : Nat := (l.map Order.time).foldl max 0
theorem lastAll_snoc (l : List Order) (o : Order) : lastAll (l ++ [o]) = max (lastAll l) o.time := by
  unfold lastAll
  rw [List.map_append, List.foldl_append]
  rfl

/-! ### the gains by place: channel by channel, of each bus by bus -/
theorem pairs_eq (d : Desk) : d.pairs = (List.range (d.channels * d.buses)).map fun p => (p / d.buses, p % d.buses) := by
  unfold Desk.pairs
  generalize d.buses = B
  induction d.channels with
  | zero => simp
  | succ C ih =>
    rw [List.range_succ, List.flatMap_append, ih, Nat.succ_mul, List.range_add, List.map_append]
    congr 1
    simp only [List.flatMap_cons, List.flatMap_nil, List.append_nil, List.map_map]
    apply List.map_congr_left
    intro b hb
    have hb : b < B := List.mem_range.mp hb
    have hB : 0 < B := by omega
    show (C, b) = ((C * B + b) / B, (C * B + b) % B)
    rw [Nat.mul_comm C B, Nat.mul_add_div hB, Nat.div_eq_of_lt hb, Nat.mul_add_mod, Nat.mod_eq_of_lt hb]
    rfl
theorem goals_eq (d : Desk) : d.goals = (List.range (d.channels * d.buses)).map fun p => lastGain d.orders (p / d.buses) (p % d.buses) := by
  unfold Desk.goals
  rw [pairs_eq, List.map_map]
  rfl
theorem goals_length (d : Desk) : d.goals.length = d.channels * d.buses := by
  rw [goals_eq]
  simp
/-- the places that have to go elsewhere -/
def places (gs scene : List Nat) : List Nat := (List.range scene.length).filter fun p => scene.getD p 0 != gs.getD p 0
theorem zip_range {α : Type} (f : Nat → α) (sc : List Nat) : ((List.range sc.length).map f).zip sc = (List.range sc.length).map fun p => (f p, sc.getD p 0) := by
  apply List.ext_getElem
  · simp
  · intro i h1 h2
    simp at h1 h2
    simp [h2]
theorem changes_eq (d : Desk) {scene : List Nat} (h : scene.length = d.channels * d.buses) :
    d.changes scene = (places d.goals scene).map fun p => (p / d.buses, p % d.buses, scene.getD p 0) := by
  unfold Desk.changes places
  rw [pairs_eq, ← h, zip_range, List.filter_map, List.map_map]
  have e : (List.range scene.length).filter ((fun x : (Nat × Nat) × Nat => d.goal x.1.1 x.1.2 != x.2) ∘ fun p => ((p / d.buses, p % d.buses), scene.getD p 0)) = (List.range scene.length).filter fun p => scene.getD p 0 != d.goals.getD p 0 := by
    apply List.filter_congr
    intro p hp
    have hp : p < scene.length := List.mem_range.mp hp
    have hg : d.goals.getD p 0 = d.goal (p / d.buses) (p % d.buses) := by
      rw [goals_eq, ← h]
      simp [hp]
      rfl
    rw [hg]
    show (d.goal (p / d.buses) (p % d.buses) != scene.getD p 0) = (scene.getD p 0 != d.goal (p / d.buses) (p % d.buses))
    exact bne_comm
  rw [e]
  rfl

/-! ### an order is added -/
/-- the times of the last orders, by place -/
def Desk.times (d : Desk) : List Nat := (List.range (d.channels * d.buses)).map fun p => lastTime d.orders (p / d.buses) (p % d.buses)
/-- what holds of every desk that is met -/
structure DOk (d : Desk) : Prop where
  ch : 1 ≤ d.channels ∧ d.channels ≤ 32
  bu : 1 ≤ d.buses ∧ d.buses ≤ 8
  num : ∀ (i : Nat) (o : Order), d.orders[i]? = some o → o.number = i ∧ o.channel < d.channels ∧ o.bus < d.buses
  many : d.orders.length ≤ 4096
  sl : d.sealed ≤ 2 ^ 48
  sc16 : d.scenes.length = 16
  scl : ∀ s ∈ d.scenes, s = [] ∨ s.length = d.channels * d.buses
theorem DOk.lt {d : Desk} (h : DOk d) : ∀ p ∈ d.orders, p.number < d.orders.length := fun p hp => by
  obtain ⟨i, hi, e⟩ := List.getElem_of_mem hp
  have := (h.num i p (by rw [List.getElem?_eq_getElem hi, e])).1
  omega
theorem place_eq {p c b B : Nat} (hb : b < B) : (p / B = c ∧ p % B = b) ↔ p = c * B + b := by
  constructor
  · rintro ⟨rfl, rfl⟩
    rw [Nat.mul_comm]
    exact (Nat.div_add_mod p B).symm
  · rintro rfl
    have hB : 0 < B := by omega
    rw [Nat.mul_comm c B, Nat.mul_add_div hB, Nat.div_eq_of_lt hb, Nat.mul_add_mod, Nat.mod_eq_of_lt hb]
    exact ⟨rfl, rfl⟩
theorem place_lt {c b C B : Nat} (hc : c < C) (hb : b < B) : c * B + b < C * B := by
  have : (c + 1) * B ≤ C * B := Nat.mul_le_mul_right B hc
  rw [Nat.succ_mul] at this
  omega
theorem gives_lists {d : Desk} (h : DOk d) {c b g f t : Nat} (hc : c < d.channels) (hb : b < d.buses) :
    (Desk.times (d.gives c b g f t), (d.gives c b g f t).goals) = if (Desk.times d).getD (c * d.buses + b) 0 ≤ t then ((Desk.times d).set (c * d.buses + b) t, d.goals.set (c * d.buses + b) g) else (Desk.times d, d.goals) := by
  have hn : ∀ p ∈ d.orders, p.number < (Order.mk d.orders.length t c b g f).number := h.lt
  have hlt := place_lt hc hb
  have ht : (Desk.times d).getD (c * d.buses + b) 0 = lastTime d.orders c b := by
    have e := (place_eq (p := c * d.buses + b) (c := c) hb).mpr rfl
    unfold Desk.times
    simp [hlt, e.1, e.2]
  rw [ht]
  have key := fun c' b' => last_snoc (o := Order.mk d.orders.length t c b g f) hn c' b'
  have e1 : (d.gives c b g f t).goals = (List.range (d.channels * d.buses)).map fun p => lastGain (d.orders ++ [Order.mk d.orders.length t c b g f]) (p / d.buses) (p % d.buses) := goals_eq _
  have e2 : Desk.times (d.gives c b g f t) = (List.range (d.channels * d.buses)).map fun p => lastTime (d.orders ++ [Order.mk d.orders.length t c b g f]) (p / d.buses) (p % d.buses) := rfl
  rw [e1, e2, goals_eq]
  by_cases hle : lastTime d.orders c b ≤ t
  · rw [if_pos hle]
    refine Prod.ext ?_ ?_
    · apply List.ext_getElem
      · simp [Desk.times]
      · intro i h1 h2
        simp only [List.getElem_map, List.getElem_range, List.getElem_set, Desk.times]
        have k := key (i / d.buses) (i % d.buses)
        by_cases hi : i = c * d.buses + b
        · have q := (place_eq (c := c) hb).mpr hi
          rw [q.1, q.2, if_pos ⟨⟨rfl, rfl⟩, hle⟩] at k
          rw [if_pos hi.symm, q.1, q.2]
          exact (Prod.mk.inj k).1
        · rw [if_neg (fun z => hi ((place_eq hb).mp ⟨z.1.1.symm, z.1.2.symm⟩))] at k
          rw [if_neg (fun z => hi z.symm)]
          exact (Prod.mk.inj k).1
    · apply List.ext_getElem
      · simp
      · intro i h1 h2
        simp only [List.getElem_map, List.getElem_range, List.getElem_set]
        have k := key (i / d.buses) (i % d.buses)
        by_cases hi : i = c * d.buses + b
        · have q := (place_eq (c := c) hb).mpr hi
          rw [q.1, q.2, if_pos ⟨⟨rfl, rfl⟩, hle⟩] at k
          rw [if_pos hi.symm, q.1, q.2]
          exact (Prod.mk.inj k).2
        · rw [if_neg (fun z => hi ((place_eq hb).mp ⟨z.1.1.symm, z.1.2.symm⟩))] at k
          rw [if_neg (fun z => hi z.symm)]
          exact (Prod.mk.inj k).2
  · rw [if_neg hle]
    have kk : ∀ p, lastTime (d.orders ++ [Order.mk d.orders.length t c b g f]) (p / d.buses) (p % d.buses) = lastTime d.orders (p / d.buses) (p % d.buses) ∧ lastGain (d.orders ++ [Order.mk d.orders.length t c b g f]) (p / d.buses) (p % d.buses) = lastGain d.orders (p / d.buses) (p % d.buses) := fun p => by
      have k := key (p / d.buses) (p % d.buses)
      rw [if_neg (fun z => hle (by have e3 := z.1.1; have e4 := z.1.2; have e5 := z.2; dsimp only at e3 e4 e5; rw [← e3, ← e4] at e5; exact e5))] at k
      exact ⟨(Prod.mk.inj k).1, (Prod.mk.inj k).2⟩
    refine Prod.ext ?_ ?_
    · exact List.map_congr_left fun p _ => (kk p).1
    · exact List.map_congr_left fun p _ => (kk p).2
theorem gives_ok {d : Desk} (h : DOk d) {c b g f t : Nat} (hc : c < d.channels) (hb : b < d.buses) (hm : d.orders.length < 4096) : DOk (d.gives c b g f t) where
  ch := h.ch
  bu := h.bu
  num := fun i o e => by
    have e : (d.orders ++ [Order.mk d.orders.length t c b g f])[i]? = some o := e
    by_cases hi : i < d.orders.length
    · rw [List.getElem?_append_left hi] at e
      exact h.num i o e
    · rw [List.getElem?_append_right (by omega)] at e
      have : i - d.orders.length = 0 := by
        cases q : i - d.orders.length with
        | zero => rfl
        | succ n => rw [q] at e; simp at e
      rw [this] at e
      simp at e
      subst e
      exact ⟨by show d.orders.length = i; omega, hc, hb⟩
  many := by
    show (d.orders ++ [_]).length ≤ 4096
    rw [List.length_append]
    show d.orders.length + 1 ≤ 4096
    omega
  sl := h.sl
  sc16 := h.sc16
  scl := h.scl
/-! ### no more than so many -/
theorem filter_ne_len (n : Nat) : ∀ {l : List Nat}, l.Nodup → l.length ≤ (l.filter fun x => x != n).length + 1
  | [], _ => Nat.zero_le _
  | x :: l, h => by
    obtain ⟨h1, h2⟩ := List.nodup_cons.mp h
    have ih := filter_ne_len n h2
    by_cases e : x = n
    · subst e
      have e2 : (l.filter fun y => y != x) = l := by
        apply List.filter_eq_self.mpr
        intro a ha
        simp
        intro z
        subst z
        exact h1 ha
      rw [List.filter_cons_of_neg (by simp), e2, List.length_cons]
      exact Nat.le_refl _
    · rw [List.filter_cons_of_pos (by simp [e]), List.length_cons, List.length_cons]
      omega
theorem nodup_bound : ∀ (n : Nat) {l : List Nat}, l.Nodup → (∀ x ∈ l, x < n) → l.length ≤ n
  | 0, l, _, h2 => by
    cases l with
    | nil => exact Nat.le_refl 0
    | cons x l => exact absurd (h2 x (List.Mem.head _)) (Nat.not_lt_zero _)
  | n + 1, l, h1, h2 => by
    have ih := nodup_bound n (List.Pairwise.filter (fun x => x != n) h1) (fun x hx => by
      obtain ⟨a, b⟩ := List.mem_filter.mp hx
      have := h2 x a
      simp at b
      omega)
    have := filter_ne_len n h1
    omega

/-! ### a new desk -/
theorem desk0_goals (c b : Nat) : (desk0 c b).goals = List.replicate (c * b) 0 := by
  rw [goals_eq]
  show (List.range (c * b)).map (fun p => lastGain [] (p / b) (p % b)) = _
  apply List.ext_getElem
  · simp
  · intro i h1 h2
    simp
    rfl
theorem desk0_times (c b : Nat) : Desk.times (desk0 c b) = List.replicate (c * b) 0 := by
  show (List.range (c * b)).map (fun p => lastTime [] (p / b) (p % b)) = _
  apply List.ext_getElem
  · simp
  · intro i h1 h2
    simp
    rfl
theorem desk0_ok {c b : Nat} (hc : 1 ≤ c ∧ c ≤ 32) (hb : 1 ≤ b ∧ b ≤ 8) : DOk (desk0 c b) where
  ch := hc
  bu := hb
  num := fun i o e => by
    have e : ([] : List Order)[i]? = some o := e
    simp at e
  many := Nat.zero_le _
  sl := Nat.zero_le _
  sc16 := rfl
  scl := fun s hs => .inl (List.eq_of_mem_replicate hs)
theorem goals_ne {d : Desk} (h : DOk d) : d.goals ≠ [] := fun e => by
  have := congrArg List.length e
  rw [goals_length] at this
  have h1 := h.ch.1
  have h2 := h.bu.1
  have : 1 * 1 ≤ d.channels * d.buses := Nat.mul_le_mul h1 h2
  simp_all
theorem area {d : Desk} (h : DOk d) : d.channels * d.buses ≤ 256 := Nat.mul_le_mul h.ch.2 h.bu.2
theorem scene_len {d : Desk} (h : DOk d) {k : Nat} (hne : d.scenes.getD k [] ≠ []) : (d.scenes.getD k []).length = d.channels * d.buses := by
  by_cases hk : k < d.scenes.length
  · have e : d.scenes.getD k [] = d.scenes[k] := by simp [hk]
    rw [e] at hne ⊢
    exact (h.scl _ (List.getElem_mem hk)).resolve_left hne
  · exact absurd (by simp [hk]) hne
theorem keep_ok {d : Desk} (h : DOk d) (k : Nat) : DOk { d with scenes := d.scenes.set k d.goals } where
  ch := h.ch
  bu := h.bu
  num := h.num
  many := h.many
  sl := h.sl
  sc16 := by
    show (d.scenes.set k d.goals).length = 16
    rw [List.length_set]
    exact h.sc16
  scl := fun s hs => by
    rcases List.mem_or_eq_of_mem_set hs with hs | rfl
    · exact h.scl s hs
    · exact .inr (goals_length d)
theorem seal_ok {d : Desk} (h : DOk d) {t : Nat} (ht : t ≤ 2 ^ 48) : DOk { d with sealed := t } := ⟨h.ch, h.bu, h.num, h.many, ht, h.sc16, h.scl⟩
end Sb

set_option Elab.async false
/-! What a desk answers, case by case. -/
namespace Sb
open Km345
theorem okGain_iff (g f : Nat) : okGain g f = false ↔ 65536 < g ∨ 480000 < f := by
  unfold okGain UNIT
  by_cases h1 : g ≤ 65536
  · by_cases h2 : f ≤ 480000
    · simp [h1, h2]
    · simp [h1, h2]; omega
  · simp [h1]; omega
theorem okSize_iff (c b : Nat) : okSize c b = false ↔ ¬ ((1 ≤ c ∧ c ≤ 32) ∧ (1 ≤ b ∧ b ≤ 8)) := by
  unfold okSize
  by_cases h1 : 1 ≤ c <;> by_cases h2 : c ≤ 32 <;> by_cases h3 : 1 ≤ b <;> by_cases h4 : b ≤ 8 <;> simp [h1, h2, h3, h4]
theorem dStart_22 {d : Desk} {c b : Nat} (h : ¬ ((1 ≤ c ∧ c ≤ 32) ∧ (1 ≤ b ∧ b ≤ 8))) : dDoes d (.dStart c b) = (d, only (-22)) := if_pos ((okSize_iff c b).mpr h)
theorem dStart_ok {d : Desk} {c b : Nat} (h : (1 ≤ c ∧ c ≤ 32) ∧ (1 ≤ b ∧ b ≤ 8)) : dDoes d (.dStart c b) = (desk0 c b, only 0) := if_neg (fun e => (okSize_iff c b).mp e h)
section
variable {d : Desk} {c b g f t k n : Nat}
def Bad (d : Desk) (c b g f t : Nat) : Prop := d.channels ≤ c ∨ d.buses ≤ b ∨ 65536 < g ∨ 480000 < f ∨ 281474976710656 ≤ t
theorem bad_iff : (d.channels ≤ c ∨ d.buses ≤ b ∨ okGain g f = false ∨ TIME ≤ t) ↔ Bad d c b g f t := by
  unfold Bad TIME
  rw [okGain_iff]
  constructor
  · rintro (h | h | (h | h) | h)
    · exact .inl h
    · exact .inr (.inl h)
    · exact .inr (.inr (.inl h))
    · exact .inr (.inr (.inr (.inl h)))
    · exact .inr (.inr (.inr (.inr h)))
  · rintro (h | h | h | h | h)
    · exact .inl h
    · exact .inr (.inl h)
    · exact .inr (.inr (.inl (.inl h)))
    · exact .inr (.inr (.inl (.inr h)))
    · exact .inr (.inr (.inr h))
theorem dSet_22 (h : Bad d c b g f t) : dDoes d (.dSet c b g f t) = (d, only (-22)) := if_pos (bad_iff.mpr h)
theorem dSet_13 (h : ¬ Bad d c b g f t) (h2 : t < d.sealed) : dDoes d (.dSet c b g f t) = (d, only (-13)) := (if_neg (fun e => h (bad_iff.mp e))).trans (if_pos h2)
theorem dSet_28 (h : ¬ Bad d c b g f t) (h2 : ¬ t < d.sealed) (h3 : 4096 ≤ d.orders.length) : dDoes d (.dSet c b g f t) = (d, only (-28)) := (if_neg (fun e => h (bad_iff.mp e))).trans ((if_neg h2).trans (if_pos h3))
theorem dSet_ok (h : ¬ Bad d c b g f t) (h2 : ¬ t < d.sealed) (h3 : ¬ 4096 ≤ d.orders.length) : dDoes d (.dSet c b g f t) = (d.gives c b g f t, told ⟨d.orders.length, t, c, b, g, f⟩) :=
  (if_neg (fun e => h (bad_iff.mp e))).trans ((if_neg h2).trans (if_neg h3))
theorem dKeep_22 (h : 16 ≤ k) : dDoes d (.dKeep k) = (d, only (-22)) := if_pos h
theorem dKeep_ok (h : ¬ 16 ≤ k) : dDoes d (.dKeep k) = ({ d with scenes := d.scenes.set k d.goals }, only 0) := if_neg h
theorem badGo_iff : (SCENES ≤ k ∨ okGain 0 f = false ∨ TIME ≤ t) ↔ (16 ≤ k ∨ 480000 < f ∨ 281474976710656 ≤ t) := by
  unfold SCENES TIME
  rw [okGain_iff]
  simp
theorem dGo_22 (h : 16 ≤ k ∨ 480000 < f ∨ 281474976710656 ≤ t) : dDoes d (.dGo k f t) = (d, only (-22)) := if_pos (badGo_iff.mpr h)
theorem dGo_2 (h : ¬ (16 ≤ k ∨ 480000 < f ∨ 281474976710656 ≤ t)) (h2 : d.scenes.getD k [] = []) : dDoes d (.dGo k f t) = (d, only (-2)) :=
  (if_neg (fun e => h (badGo_iff.mp e))).trans (if_pos (by rw [h2]; rfl))
theorem empty_iff {l : List Nat} : l.isEmpty = true ↔ l = [] := List.isEmpty_iff
theorem dGo_13 (h : ¬ (16 ≤ k ∨ 480000 < f ∨ 281474976710656 ≤ t)) (h2 : d.scenes.getD k [] ≠ []) (h3 : t < d.sealed ∨ t < lastAll d.orders) : dDoes d (.dGo k f t) = (d, only (-13)) :=
  (if_neg (fun e => h (badGo_iff.mp e))).trans ((if_neg (fun e => h2 (empty_iff.mp e))).trans (if_pos h3))
theorem dGo_28 (h : ¬ (16 ≤ k ∨ 480000 < f ∨ 281474976710656 ≤ t)) (h2 : d.scenes.getD k [] ≠ []) (h3 : ¬ (t < d.sealed ∨ t < lastAll d.orders)) (h4 : 4096 < d.orders.length + (d.changes (d.scenes.getD k [])).length) : dDoes d (.dGo k f t) = (d, only (-28)) :=
  (if_neg (fun e => h (badGo_iff.mp e))).trans ((if_neg (fun e => h2 (empty_iff.mp e))).trans ((if_neg h3).trans (if_pos h4)))
theorem dGo_ok (h : ¬ (16 ≤ k ∨ 480000 < f ∨ 281474976710656 ≤ t)) (h2 : d.scenes.getD k [] ≠ []) (h3 : ¬ (t < d.sealed ∨ t < lastAll d.orders)) (h4 : ¬ 4096 < d.orders.length + (d.changes (d.scenes.getD k [])).length) :
    dDoes d (.dGo k f t) = ((d.changes (d.scenes.getD k [])).foldl (fun e x => e.gives x.1 x.2.1 x.2.2 f t) d, only ((d.changes (d.scenes.getD k [])).length : Nat)) :=
  (if_neg (fun e => h (badGo_iff.mp e))).trans ((if_neg (fun e => h2 (empty_iff.mp e))).trans ((if_neg h3).trans (if_neg h4)))
theorem dSeal_22 (h : 281474976710656 < t) : dDoes d (.dSeal t) = (d, only (-22)) := if_pos h
theorem dSeal_13 (h : ¬ 281474976710656 < t) (h2 : t < d.sealed) : dDoes d (.dSeal t) = (d, only (-13)) := (if_neg h).trans (if_pos h2)
theorem dSeal_ok (h : ¬ 281474976710656 < t) (h2 : ¬ t < d.sealed) : dDoes d (.dSeal t) = ({ d with sealed := t }, { value := (d.orders.length : Nat), bytes := (⟨d.orders.length, t⟩ : Seal).bytes }) := (if_neg h).trans (if_neg h2)
theorem dAgain_2 (h : d.orders.length ≤ n) : dDoes d (.dAgain n) = (d, only (-2)) := by
  show (d, match d.orders[n]? with | some o => told o | none => only (-2)) = _
  rw [List.getElem?_eq_none h]
theorem dAgain_ok {o : Order} (h : d.orders[n]? = some o) : dDoes d (.dAgain n) = (d, told o) := by
  show (d, match d.orders[n]? with | some o => told o | none => only (-2)) = _
  rw [h]
/-- a desk that takes a scene, order by order -/
def goes (d : Desk) (f t : Nat) (l : List (Nat × Nat × Nat)) : Desk := l.foldl (fun e x => e.gives x.1 x.2.1 x.2.2 f t) d
theorem goes_snoc (l : List (Nat × Nat × Nat)) (x : Nat × Nat × Nat) : goes d f t (l ++ [x]) = (goes d f t l).gives x.1 x.2.1 x.2.2 f t := by
  unfold goes
  rw [List.foldl_append]
  rfl
theorem goes_same : ∀ (l : List (Nat × Nat × Nat)) (d : Desk), (goes d f t l).channels = d.channels ∧ (goes d f t l).buses = d.buses ∧ (goes d f t l).orders.length = d.orders.length + l.length ∧ (goes d f t l).scenes = d.scenes
  | [], _ => ⟨rfl, rfl, rfl, rfl⟩
  | x :: l, d => by
    obtain ⟨h1, h2, h3, h4⟩ := goes_same l (d.gives x.1 x.2.1 x.2.2 f t)
    refine ⟨h1, h2, ?_, h4⟩
    show (goes (d.gives x.1 x.2.1 x.2.2 f t) f t l).orders.length = _
    rw [h3]
    show (d.orders ++ [_]).length + l.length = d.orders.length + (l.length + 1)
    rw [List.length_append]
    show d.orders.length + 1 + l.length = _
    omega
end
end Sb

set_option Elab.async false
/-! A list of calls, call by call. -/
namespace Sb
open Km345Neutral (S step start may asked asked1 Call)
theorem whole_eq (c : List (List Int)) : PyKm345.whole c = c := by
  unfold PyKm345.whole
  split <;> rfl
theorem map_whole : ∀ cs : List (List (List Int)), cs.map PyKm345.whole = cs
  | [] => rfl
  | c :: cs => by rw [List.map_cons, whole_eq, map_whole cs]
/-- what a list that may be handed in is -/
structure Line (l : List Int) (cs : List Call) : Prop where
  flat : l = PyFlat.put cs
  good : ∀ c ∈ cs, asked1 c = true
  comes : may start cs = true
  most : cs.length ≤ 1000
  due : PyKm345.answers l = PyFlat.told (PyFlat.played step start cs)
theorem line_of {l : List Int} (h : PyKm345.answers_asked l = true) : ∃ cs, Line l cs := by
  unfold PyKm345.answers_asked at h
  cases e : PyKm345.calls l with
  | none => rw [e] at h; cases h
  | some cs =>
    rw [e] at h
    have h : (PyFlat.atMost 1000 cs && Km345Neutral.asked cs) = true := h
    unfold Km345Neutral.asked PyFlat.atMost at h
    simp only [Bool.and_eq_true, decide_eq_true_eq] at h
    obtain ⟨h1, h2, h3, h4, h5⟩ := h
    have e0 := e
    unfold PyKm345.calls at e
    cases q : PyFlat.calls PyKm345.shape l.length l with
    | none => rw [q] at e; cases e
    | some ds =>
      rw [q] at e
      have e : some (ds.map PyKm345.whole) = some cs := e
      rw [map_whole] at e
      have e := Option.some.inj e
      subst e
      refine ⟨ds, (PyFlat.put_calls _ _ _ q).1, fun c hc => List.all_eq_true.mp h4 c hc, h5, h1, ?_⟩
      unfold PyKm345.answers
      rw [e0]
/-- what is due of the rest, from a state on -/
def dueOf (s : S) (cs : List Call) : List Int := PyFlat.told (PyFlat.played step s cs)
theorem dueOf_nil (s : S) : dueOf s [] = [] := rfl
theorem dueOf_cons (s : S) (c : Call) (cs : List Call) : dueOf s (c :: cs) = ((step s c).2.length : Int) :: (step s c).2 ++ dueOf (step s c).1 cs := rfl
theorem may_cons {s : S} {c : Call} {cs : List Call} (h : may s (c :: cs) = true) : (step s c).2 ≠ [] ∧ may (step s c).1 cs = true := by
  have h : (!((step s c).2.isEmpty) && may (step s c).1 cs) = true := h
  rw [Bool.and_eq_true] at h
  refine ⟨fun e => ?_, h.2⟩
  rw [e] at h
  exact absurd h.1 (by decide)
theorem put_cons (c : Call) (cs : List Call) : PyFlat.put (c :: cs) = PyFlat.put1 c ++ PyFlat.put cs := rfl
end Sb

set_option Elab.async false
/-! The forms of a call that may be handed in, and what each is. -/
namespace Sb
open Km345Neutral (S step step0 step1 start may asked1 natural whole32 told nats)
inductive Form : Km345Neutral.Call → Prop
  | dStart (a b : Nat) (ha : a < 2 ^ 32) (hb : b < 2 ^ 32) : Form [[0, (a : Int), (b : Int)]]
  | dSet (c b g f t : Nat) (hc : c < 2 ^ 32) (hb : b < 2 ^ 32) (hg : g < 2 ^ 32) (hf : f < 2 ^ 32) (ht : t < 2 ^ 64) : Form [[1, (c : Int), (b : Int), (g : Int), (f : Int), (t : Int)]]
  | dKeep (k : Nat) (hk : k < 2 ^ 32) : Form [[2, (k : Int)]]
  | dGo (k f t : Nat) (hk : k < 2 ^ 32) (hf : f < 2 ^ 32) (ht : t < 2 ^ 64) : Form [[3, (k : Int), (f : Int), (t : Int)]]
  | dSeal (t : Nat) (ht : t < 2 ^ 64) : Form [[4, (t : Int)]]
  | dAgain (n : Nat) (hn : n < 2 ^ 32) : Form [[5, (n : Int)]]
  | bStart (k a b : Nat) (hk : k < 2 ^ 8) (ha : a < 2 ^ 32) (hb : b < 2 ^ 32) : Form [[6, (k : Int), (a : Int), (b : Int)]]
  | bHeard (k : Nat) (hk : k < 2 ^ 8) (m : List Nat) (hm : m.length = 28) (hb : ∀ x ∈ m, x < 256) : Form [[7, (k : Int)], m.map fun (x : Nat) => (x : Int)]
  | bLacks (k : Nat) (hk : k < 2 ^ 8) : Form [[8, (k : Int)]]
  | bGain (k c b t : Nat) (hk : k < 2 ^ 8) (hc : c < 2 ^ 32) (hb : b < 2 ^ 32) (ht : t < 2 ^ 64) : Form [[9, (k : Int), (c : Int), (b : Int), (t : Int)]]
  | bMix (k t : Nat) (hk : k < 2 ^ 8) (ht : t < 2 ^ 64) (r : List Int) (hr : ∀ x ∈ r, -(2 ^ 31) ≤ x ∧ x < 2 ^ 31) (hl : r.length ≤ 1536) : Form [[10, (k : Int), (t : Int)], r]
theorem nat_of {z : Int} {w : Nat} (h : natural z w = true) : ∃ n : Nat, z = (n : Int) ∧ n < 2 ^ w := by
  unfold natural at h
  simp only [Bool.and_eq_true, decide_eq_true_eq] at h
  refine ⟨z.toNat, by omega, ?_⟩
  have h2 : ((z.toNat : Nat) : Int) < ((2 ^ w : Nat) : Int) := by
    rw [Int.toNat_of_nonneg h.1, Int.natCast_pow]
    exact h.2
  omega
theorem nats_of : ∀ {l : List Int}, (∀ z ∈ l, natural z 8 = true) → ∃ m : List Nat, (l = m.map fun (x : Nat) => (x : Int)) ∧ ∀ x ∈ m, x < 256
  | [], _ => ⟨[], rfl, fun x hx => by cases hx⟩
  | z :: l, h => by
    obtain ⟨n, rfl, hn⟩ := nat_of (h z (List.Mem.head _))
    obtain ⟨m, rfl, hm⟩ := nats_of fun y hy => h y (List.Mem.tail _ hy)
    refine ⟨n :: m, rfl, fun x hx => ?_⟩
    rcases List.mem_cons.mp hx with rfl | hx
    · exact hn
    · exact hm x hx
theorem form_of {c : Km345Neutral.Call} (h : asked1 c = true) : Form c := by
  unfold asked1 at h
  split at h
  · simp only [Bool.and_eq_true] at h
    obtain ⟨a, rfl, ha⟩ := nat_of h.1
    obtain ⟨b, rfl, hb⟩ := nat_of h.2
    exact .dStart a b ha hb
  · simp only [Bool.and_eq_true] at h
    obtain ⟨a, rfl, ha⟩ := nat_of h.1.1.1.1
    obtain ⟨b, rfl, hb⟩ := nat_of h.1.1.1.2
    obtain ⟨c, rfl, hc⟩ := nat_of h.1.1.2
    obtain ⟨d, rfl, hd⟩ := nat_of h.1.2
    obtain ⟨e, rfl, he⟩ := nat_of h.2
    exact .dSet a b c d e ha hb hc hd he
  · obtain ⟨a, rfl, ha⟩ := nat_of h
    exact .dKeep a ha
  · simp only [Bool.and_eq_true] at h
    obtain ⟨a, rfl, ha⟩ := nat_of h.1.1
    obtain ⟨b, rfl, hb⟩ := nat_of h.1.2
    obtain ⟨c, rfl, hc⟩ := nat_of h.2
    exact .dGo a b c ha hb hc
  · obtain ⟨a, rfl, ha⟩ := nat_of h
    exact .dSeal a ha
  · obtain ⟨a, rfl, ha⟩ := nat_of h
    exact .dAgain a ha
  · simp only [Bool.and_eq_true] at h
    obtain ⟨k, rfl, hk⟩ := nat_of h.1.1
    obtain ⟨a, rfl, ha⟩ := nat_of h.1.2
    obtain ⟨b, rfl, hb⟩ := nat_of h.2
    exact .bStart k a b hk ha hb
  · simp only [Bool.and_eq_true, decide_eq_true_eq, List.all_eq_true] at h
    obtain ⟨k, rfl, hk⟩ := nat_of h.1
    obtain ⟨m, e, hm⟩ := nats_of h.2.2
    subst e
    have hl := h.2.1
    rw [List.length_map] at hl
    exact .bHeard k hk m hl hm
  · obtain ⟨k, rfl, hk⟩ := nat_of h
    exact .bLacks k hk
  · simp only [Bool.and_eq_true] at h
    obtain ⟨k, rfl, hk⟩ := nat_of h.1.1.1
    obtain ⟨a, rfl, ha⟩ := nat_of h.1.1.2
    obtain ⟨b, rfl, hb⟩ := nat_of h.1.2
    obtain ⟨c, rfl, hc⟩ := nat_of h.2
    exact .bGain k a b c hk ha hb hc
  · simp only [Bool.and_eq_true, decide_eq_true_eq, List.all_eq_true] at h
    obtain ⟨k, rfl, hk⟩ := nat_of h.1.1.1
    obtain ⟨a, rfl, ha⟩ := nat_of h.1.1.2
    refine .bMix k a hk ha _ (fun x hx => ?_) h.2
    have := h.1.2 x hx
    unfold whole32 at this
    simp only [Bool.and_eq_true, decide_eq_true_eq] at this
    exact this
  · cases h
theorem step_dStart (s : S) (a b : Nat) : step s [[0, (a : Int), (b : Int)]] = step0 s 0 (.dStart a b) := rfl
theorem step_dSet (s : S) (c b g f t : Nat) : step s [[1, (c : Int), (b : Int), (g : Int), (f : Int), (t : Int)]] = step0 s 0 (.dSet c b g f t) := rfl
theorem step_dKeep (s : S) (k : Nat) : step s [[2, (k : Int)]] = step0 s 0 (.dKeep k) := rfl
theorem step_dGo (s : S) (k f t : Nat) : step s [[3, (k : Int), (f : Int), (t : Int)]] = step0 s 0 (.dGo k f t) := rfl
theorem step_dSeal (s : S) (t : Nat) : step s [[4, (t : Int)]] = step0 s 0 (.dSeal t) := rfl
theorem step_dAgain (s : S) (n : Nat) : step s [[5, (n : Int)]] = step0 s 0 (.dAgain n) := rfl
theorem step_bStart (s : S) (k a b : Nat) : step s [[6, (k : Int), (a : Int), (b : Int)]] = step1 s k (.bStart a b) := rfl
theorem nats_map : ∀ m : List Nat, nats (m.map fun (x : Nat) => (x : Int)) = m
  | [] => rfl
  | x :: m => congrArg (List.cons x) (nats_map m)
theorem step_bHeard (s : S) (k : Nat) (m : List Nat) : step s [[7, (k : Int)], m.map fun (x : Nat) => (x : Int)] = step1 s k (.bHeard m) := by
  have e : step s [[7, (k : Int)], m.map fun (x : Nat) => (x : Int)] = step1 s k (.bHeard (nats (m.map fun (x : Nat) => (x : Int)))) := rfl
  rw [e, nats_map]
theorem step_bLacks (s : S) (k : Nat) : step s [[8, (k : Int)]] = step1 s k .bLacks := rfl
theorem step_bGain (s : S) (k c b t : Nat) : step s [[9, (k : Int), (c : Int), (b : Int), (t : Int)]] = step1 s k (.bGain c b t) := rfl
theorem step_bMix (s : S) (k t : Nat) (r : List Int) : step s [[10, (k : Int), (t : Int)], r] = step1 s k (.bMix (r ++ List.replicate (1536 - r.length) 0) t) := rfl
end Sb

set_option Elab.async false
set_option maxRecDepth 100000
set_option maxHeartbeats 4000000
/-! Messages: the text's defs of messages keep to the specification's. -/
namespace Sb
open PySem PySem.Spec PyProof.Rows L2

/-! ### helpers -/
/-- naturals as values -/
def nV (l : List Nat) : List V := l.map fun (x : Nat) => V.int (x : Int)
theorem nV_length (l : List Nat) : (nV l).length = l.length := List.length_map ..
theorem nV_append (l m : List Nat) : nV (l ++ m) = nV l ++ nV m := List.map_append ..
theorem nV_get {l : List Nat} {i x : Nat} (h : l[i]? = some x) : (nV l)[i]? = some (V.int (x : Int)) := by
  unfold nV
  rw [List.getElem?_map, h]
  rfl
theorem nV_set (l : List Nat) (i x : Nat) : nV (l.set i x) = (nV l).set i (V.int (x : Int)) := by
  unfold nV
  rw [List.map_set]
theorem line_of_le {n : Nat} (h : n ≤ 100000) : n ≤ sizeLine := Nat.le_trans h (by decide)
theorem line_lt {n : Nat} (h : n ≤ 100000) : n < sizeLine := Nat.lt_of_le_of_lt h (by decide)
/-- a new list comes back, all else as it was -/
def RetL (H : Hp) (xs : List V) (Q : VK) : Prop := ∀ (H' : Hp) (p : Addr), Same H H' → H p = none → H' p = some (.lst xs) → Q (.ref p) H'
theorem same_new {H : Hp} {p : Addr} {o : HO} (h : H p = none) : Same H (upd H p o) := fun b u e => by
  rw [upd_ne (ne_of_none e h)]
  exact e
theorem same_add {H H1 : Hp} (s : Same H H1) {p : Addr} {o : HO} (h : H1 p = none) : Same H (upd H1 p o) := s.trans (same_new h)
/-- fields -/
theorem lk_here {f : Str} {v : V} {r : List (Str × V)} : (((f, v) :: r : List (Str × V))).lookup f = some v := by
  simp [List.lookup]
theorem lk_next {f g : Str} {v : V} {r : List (Str × V)} {w : Option V} (h : (f == g) = false) (e : r.lookup f = w) : (((g, v) :: r : List (Str × V))).lookup f = w := by
  simp only [List.lookup, h]
  exact e
theorem put_nil {f : Str} {v : V} : putF f v [] = [(f, v)] := rfl
theorem put_here {f : Str} {v u : V} {r : List (Str × V)} : putF f v ((f, u) :: r) = (f, v) :: r := by
  show (if f = f then _ else _) = _
  rw [if_pos rfl]
theorem put_next {f g : Str} {v u : V} {r q : List (Str × V)} (h : ¬ g = f) (e : putF f v r = q) : putF f v ((g, u) :: r) = (g, u) :: q := by
  show (if g = f then _ else _) = _
  rw [if_neg h, e]

/-! ### the text by places -/
def top (i : Nat) : Stmt := PySem.Challenge.pw_soundboard_s01_answers.main.body.getD i (.Pass ⟨0, 0, 0, 0⟩)
abbrev sOInit : Stmt := inClass (top 19) 0
abbrev sLbf : Stmt := top 21
abbrev sChk : Stmt := top 23
abbrev sWith : Stmt := top 24
abbrev sOMsg : Stmt := top 25
abbrev sSMsg : Stmt := top 26
abbrev sSInit : Stmt := inClass (top 20) 0

/-! ### an order -/
def ofs (o : Km345.Order) : List (Str × V) := [("number", .int (o.number : Int)), ("time", .int (o.time : Int)), ("channel", .int (o.channel : Int)), ("bus", .int (o.bus : Int)), ("gain", .int (o.gain : Int)), ("fade", .int (o.fade : Int))]
theorem ofs_number (o : Km345.Order) : (ofs o).lookup ("number" : Str) = some (.int (o.number : Int)) := lk_here
theorem ofs_time (o : Km345.Order) : (ofs o).lookup ("time" : Str) = some (.int (o.time : Int)) := lk_next (by decide +kernel) lk_here
theorem ofs_channel (o : Km345.Order) : (ofs o).lookup ("channel" : Str) = some (.int (o.channel : Int)) := lk_next (by decide +kernel) (lk_next (by decide +kernel) lk_here)
theorem ofs_bus (o : Km345.Order) : (ofs o).lookup ("bus" : Str) = some (.int (o.bus : Int)) := lk_next (by decide +kernel) (lk_next (by decide +kernel) (lk_next (by decide +kernel) lk_here))
theorem ofs_gain (o : Km345.Order) : (ofs o).lookup ("gain" : Str) = some (.int (o.gain : Int)) := lk_next (by decide +kernel) (lk_next (by decide +kernel) (lk_next (by decide +kernel) (lk_next (by decide +kernel) lk_here)))
theorem ofs_fade (o : Km345.Order) : (ofs o).lookup ("fade" : Str) = some (.int (o.fade : Int)) := lk_next (by decide +kernel) (lk_next (by decide +kernel) (lk_next (by decide +kernel) (lk_next (by decide +kernel) (lk_next (by decide +kernel) lk_here))))
/-- an order stands at a -/
def OrdAt (CO : Addr) (H : Hp) (a : Addr) (o : Km345.Order) : Prop := ∃ dx, H a = some (.ins CO dx (ofs o))

/-! ### a seal -/
def sfs (z : Km345.Seal) : List (Str × V) := [("number", .int (z.many : Int)), ("time", .int (z.time : Int))]
theorem sfs_number (z : Km345.Seal) : (sfs z).lookup ("number" : Str) = some (.int (z.many : Int)) := lk_here
theorem sfs_time (z : Km345.Seal) : (sfs z).lookup ("time" : Str) = some (.int (z.time : Int)) := lk_next (by decide +kernel) lk_here
def SealAt (CS : Addr) (H : Hp) (a : Addr) (z : Km345.Seal) : Prop := ∃ dx, H a = some (.ins CS dx (sfs z))
structure TxS (K : PySem.W.Frag) (CS : Addr) : Prop where
  cl : Cls K CS
  nNumber : NoAttr K CS "number"
  nTime : NoAttr K CS "time"

/-! ### what of the text the messages need -/
structure TxM (K : PySem.W.Frag) (mg : Str → Option Value) (CO : Addr) : Prop where
  clO : Cls K CO
  nNumber : NoAttr K CO "number"
  nTime : NoAttr K CO "time"
  nChannel : NoAttr K CO "channel"
  nBus : NoAttr K CO "bus"
  nGain : NoAttr K CO "gain"
  nFade : NoAttr K CO "fade"
  range : mg "range" = none
  ones : ∃ t, mg "ALL_ONES" = some (.int 4294967295 t)
  poly : ∃ t, mg "POLYNOMIAL" = some (.int 2197175160 t)
  okind : ∃ t, mg "ORDER_KIND" = some (.int 1 t)
  skind : ∃ t, mg "SEAL_KIND" = some (.int 2 t)

/-! ### numbers -/
theorem byte_eq (a i : Nat) : Builtin.bitAnd ((a : Int) / 2 ^ (8 * (0 + (i : Int))).toNat) 255 = ((a / 256 ^ i % 256 : Nat) : Int) := by
  have e1 : (8 * (0 + (i : Int))).toNat = 8 * i := by omega
  have e2 : (2 : Nat) ^ (8 * i) = 256 ^ i := by rw [Nat.pow_mul]
  have e3 : ((2 : Int) ^ (8 * i)) = ((256 ^ i : Nat) : Int) := by rw [← e2, Int.natCast_pow]; rfl
  rw [e1, e3, ← Int.natCast_ediv, show (255 : Int) = 2 ^ 8 - 1 by decide, Bits.bitAnd_mask 8 (Int.natCast_nonneg _)]
  rw [show ((2 : Int) ^ 8) = ((256 : Nat) : Int) by decide, ← Int.natCast_emod]
theorem xor_eq (a b : Nat) : Builtin.bitXor (a : Int) (b : Int) = ((a ^^^ b : Nat) : Int) := by
  rw [Bits.bitXor_pp (Int.natCast_nonneg _) (Int.natCast_nonneg _), Int.toNat_natCast, Int.toNat_natCast]
theorem low_eq (a : Nat) : Builtin.bitAnd (a : Int) 1 = ((a % 2 : Nat) : Int) := by
  rw [show (1 : Int) = 2 ^ 1 - 1 by decide, Bits.bitAnd_mask 1 (Int.natCast_nonneg _)]
  rw [show ((2 : Int) ^ 1) = ((2 : Nat) : Int) by decide, ← Int.natCast_emod]
theorem half_eq (a : Nat) : (a : Int) / 2 ^ (1 : Int).toNat = ((a / 2 : Nat) : Int) := by
  rw [show ((2 : Int) ^ (1 : Int).toNat) = ((2 : Nat) : Int) by decide, ← Int.natCast_ediv]

theorem yes_go {st : L2.St} {H : Hp} {F G : Hp → Prop} (h : F H) : tYes st H (fun b H3 => if b = true then F H3 else G H3) := by
  show if true = true then F H else G H
  rw [if_pos rfl]
  exact h
/-! ### a number of the text's top -/
theorem pe_gint {X : Cx} {x : Str} {i : Int} {t : Tok} {pos : Pos} (hm : X.mg x = some (.int i t)) (hg : Gl X x := by rfl) (hd : (x == ("__debug__" : Str)) = false := by decide) : PE X (.Name x pos) (tC (.int i)) := pe_glob hg hm ⟨t, rfl⟩ hd
theorem put_len {n : Nat} {g : Str} {v : V} {gs : List (Str × V)} (h : gs.length ≤ n) : (putF g v gs).length ≤ n + 1 := Nat.le_trans (length_putF _ _ _) (Nat.succ_le_succ h)

/-! ### promises -/
def spOInit (CO : Addr) : Sp := fun vs H Q _ => ∃ (p dx : Addr) (o : Km345.Order), vs = [.ref p, .int (o.number : Int), .int (o.time : Int), .int (o.channel : Int), .int (o.bus : Int), .int (o.gain : Int), .int (o.fade : Int)] ∧ H p = some (.ins CO dx []) ∧
  ∀ H' : Hp, OrdAt CO H' p o → (∀ b u, H b = some u → b ≠ p → H' b = some u) → Q .non H'
def spLbf : Sp := fun vs H Q _ => ∃ a w : Nat, vs = [.int (a : Int), .int (w : Int)] ∧ w ≤ 8 ∧ RetL H (nV (Km345.le w a)) Q
def spChk (K : PySem.W.Frag) : Sp := fun vs H Q _ => ∃ (a : Addr) (l : List Nat), vs = [.ref a] ∧ SqL K H a (nV l) ∧ Q (.int (Km345.crc l : Int)) H
def spWith : Sp := fun vs H Q _ => ∃ (a : Addr) (l : List Nat), vs = [.ref a] ∧ H a = some (.lst (nV l)) ∧ l.length ≤ 1000 ∧ RetL H (nV (Km345.checked l)) Q
def spOMsg (CO : Addr) : Sp := fun vs H Q _ => ∃ (a : Addr) (o : Km345.Order), vs = [.ref a] ∧ OrdAt CO H a o ∧ RetL H (nV o.bytes) Q
def spSMsg (CS : Addr) : Sp := fun vs H Q _ => ∃ (a : Addr) (s : Km345.Seal), vs = [.ref a] ∧ SealAt CS H a s ∧ RetL H (nV s.bytes) Q
def spSInit (CS : Addr) : Sp := fun vs H Q _ => ∃ (p dx : Addr) (z : Km345.Seal), vs = [.ref p, .int (z.many : Int), .int (z.time : Int)] ∧ H p = some (.ins CS dx []) ∧
  ∀ H' : Hp, SealAt CS H' p z → (∀ b u, H b = some u → b ≠ p → H' b = some u) → Q .non H'

section
variable {P : Program} {w : World} {K : PySem.W.Frag} {mg : Str → Option Value} {base : Heap}

/-! ### Order.__init__ -/
theorem scOI : FnScope ["self", "number", "time", "channel", "bus", "gain", "fade"] ["self", "number", "time", "channel", "bus", "gain", "fade"] (defScope sOInit) := ⟨rfl, rfl, rfl, by decide +kernel, rfl, by decide +kernel, by decide +kernel⟩
theorem ok_oinit {f CO : Addr} {fd : FuncData} (F : Fun K "__init__" "Order.__init__" sOInit f fd) (T : TxM K mg CO) : FnOk P w K mg base CX0 1 f fd ["self", "number", "time", "channel", "bus", "gain", "fade"] (spOInit CO) := by
  refine F.ok scOI (fun vs H Q E h => ?_) (fun cdv A outer s H vs Q E hr h => ?_)
  · obtain ⟨p, dx, o, rfl, _⟩ := h
    rfl
  · obtain ⟨p, dx, o, rfl, hp, k⟩ := h
    refine ⟨_, pss_cons (ps_fld (pv 0) (pv 1) rfl) (pss_cons (ps_fld (pv 0) (pv 2) rfl) (pss_cons (ps_fld (pv 0) (pv 3) rfl) (pss_cons (ps_fld (pv 0) (pv 4) rfl) (pss_cons (ps_fld (pv 0) (pv 5) rfl) (pss_one (ps_fld (pv 0) (pv 6) rfl)))))), ?_⟩
    refine ⟨_, rfl, _, rfl, p, CO, dx, _, rfl, hp, T.clO, T.nNumber, (by decide), ?_⟩
    refine ⟨_, rfl, _, rfl, p, CO, dx, _, rfl, upd_same, T.clO, T.nTime, Nat.lt_of_le_of_lt (put_len (Nat.le_refl 0)) (by decide), ?_⟩
    refine ⟨_, rfl, _, rfl, p, CO, dx, _, rfl, upd_same, T.clO, T.nChannel, Nat.lt_of_le_of_lt (put_len (put_len (Nat.le_refl 0))) (by decide), ?_⟩
    refine ⟨_, rfl, _, rfl, p, CO, dx, _, rfl, upd_same, T.clO, T.nBus, Nat.lt_of_le_of_lt (put_len (put_len (put_len (Nat.le_refl 0)))) (by decide), ?_⟩
    refine ⟨_, rfl, _, rfl, p, CO, dx, _, rfl, upd_same, T.clO, T.nGain, Nat.lt_of_le_of_lt (put_len (put_len (put_len (put_len (Nat.le_refl 0))))) (by decide), ?_⟩
    refine ⟨_, rfl, _, rfl, p, CO, dx, _, rfl, upd_same, T.clO, T.nFade, Nat.lt_of_le_of_lt (put_len (put_len (put_len (put_len (put_len (Nat.le_refl 0)))))) (by decide), ?_⟩
    rw [upd_upd, upd_upd, upd_upd, upd_upd, upd_upd]
    refine k _ ⟨dx, upd_same⟩ fun b u e hb => ?_
    rw [upd_ne hb]
    exact e

/-! ### Seal.__init__ -/
theorem scSI : FnScope ["self", "number", "time"] ["self", "number", "time"] (defScope sSInit) := ⟨rfl, rfl, rfl, by decide +kernel, rfl, by decide +kernel, by decide +kernel⟩
theorem ok_sinit {f CS : Addr} {fd : FuncData} (F : Fun K "__init__" "Seal.__init__" sSInit f fd) (T : TxS K CS) : FnOk P w K mg base CX0 1 f fd ["self", "number", "time"] (spSInit CS) := by
  refine F.ok scSI (fun vs H Q E h => ?_) (fun cdv A outer s H vs Q E hr h => ?_)
  · obtain ⟨p, dx, o, rfl, _⟩ := h
    rfl
  · obtain ⟨p, dx, o, rfl, hp, k⟩ := h
    refine ⟨_, pss_cons (ps_fld (pv 0) (pv 1) rfl) (pss_one (ps_fld (pv 0) (pv 2) rfl)), ?_⟩
    refine ⟨_, rfl, _, rfl, p, CS, dx, _, rfl, hp, T.cl, T.nNumber, (by decide), ?_⟩
    refine ⟨_, rfl, _, rfl, p, CS, dx, _, rfl, upd_same, T.cl, T.nTime, Nat.lt_of_le_of_lt (put_len (Nat.le_refl 0)) (by decide), ?_⟩
    rw [upd_upd]
    refine k _ ⟨dx, upd_same⟩ fun b u e hb => ?_
    rw [upd_ne hb]
    exact e

/-! ### low_byte_first -/
theorem scL : FnScope ["number", "size", "place"] ["number", "size"] (defScope sLbf) := ⟨rfl, rfl, rfl, by decide +kernel, rfl, by decide +kernel, by decide +kernel⟩
theorem ok_lbf {f CO : Addr} {fd : FuncData} (F : Fun K "low_byte_first" "low_byte_first" sLbf f fd) (T : TxM K mg CO) : FnOk P w K mg base CX0 1 f fd ["number", "size"] spLbf := by
  refine F.ok scL (fun vs H Q E h => ?_) (fun cdv A outer s H vs Q E hr h => ?_)
  · obtain ⟨a, n, rfl, _⟩ := h
    rfl
  · obtain ⟨a, n, rfl, hn, k⟩ := h
    refine ⟨_, pss_one (ps_ret (pe_lc (own := [("place", 2)]) rfl scL.nd (pi_range1 rfl T.range (pa_cons (pv 1) pa_nil)) (blkOk_by (N := ["number", "size", "place"]) (sc := defScope sLbf) (by decide +kernel))
      (fun _ _ _ _ _ => pg_name (i := 2) scL.nd rfl (Or.inl rfl)) (fun _ _ _ _ _ => pts_nil)
      (fun _ _ _ _ _ => pe_op op_and (pe_op op_shr (pv 0) (pe_op op_mul pe_int (pv 2))) pe_int))), ?_⟩
    refine ⟨_, rfl, (n : Int), rfl, by omega, by omega, fun D hD => ?_⟩
    refine lc_range (n := n) (fun i H' => Same H H' ∧ H' D = some (.lst ((List.range i).map fun j => V.int ((a / 256 ^ j % 256 : Nat) : Int)))) ⟨same_new hD, upd_same⟩ ?_ ?_
    · rintro i H' hi ⟨s1, h1⟩
      refine ⟨rfl, yes_go ?_⟩
      refine ⟨_, rfl, _, rfl, _, _, rfl, rfl, .inl ⟨by decide, by decide⟩, _, _, rfl, rfl, (by omega), _, _, rfl, rfl, _, h1, ?_, ?_, ?_⟩
      · rw [List.length_map, List.length_range]
        exact line_lt (by omega)
      · exact fun b u e => by rw [upd_ne (ne_of_none e hD)]; exact s1 b u e
      · rw [upd_same]
        dsimp only
        rw [byte_eq, List.range_succ, List.map_append]
        all_goals rfl
    · rintro H' ⟨s1, h1⟩
      refine k H' D s1 hD ?_
      rw [h1]
      unfold Km345.le nV
      rw [List.map_map]
      rfl

/-! ### check_of -/
def bitsN (k c : Nat) : Nat := (List.range k).foldl (fun x _ => Km345.crcBit x) c
theorem bitsN_succ (k c : Nat) : bitsN (k + 1) c = Km345.crcBit (bitsN k c) := by
  unfold bitsN
  rw [List.range_succ, List.foldl_append]
  rfl
theorem take_snoc {α : Type} : ∀ {l : List α} {i : Nat} {x : α}, l[i]? = some x → l.take (i + 1) = l.take i ++ [x]
  | [], i, x, h => by simp at h
  | a :: l, 0, x, h => by
    have e : a = x := Option.some.inj h
    subst e
    rfl
  | a :: l, i + 1, x, h => by
    have ih := take_snoc (l := l) (i := i) (x := x) h
    show a :: l.take (i + 1) = a :: l.take i ++ [x]
    rw [ih]
    rfl
theorem scC : FnScope ["octets", "rest", "octet", "bit"] ["octets"] (defScope sChk) := ⟨rfl, rfl, rfl, by decide +kernel, rfl, by decide +kernel, by decide +kernel⟩
theorem ok_chk {f CO : Addr} {fd : FuncData} (F : Fun K "check_of" "check_of" sChk f fd) (T : TxM K mg CO) : FnOk P w K mg base CX0 1 f fd ["octets"] (spChk K) := by
  obtain ⟨t1, hO⟩ := T.ones
  obtain ⟨t2, hP⟩ := T.poly
  refine F.ok scC (fun vs H Q E h => ?_) (fun cdv A outer s H vs Q E hr h => ?_)
  · obtain ⟨a, l, rfl, _⟩ := h
    rfl
  · obtain ⟨a, l, rfl, hS, k⟩ := h
    refine ⟨_, pss_cons (ps_set (i := 1) scC.nd rfl (Or.inl rfl) (pe_gint hO))
      (pss_cons (ps_for PassesOwn.never rfl (pi_list (pv 0)) (pg_name (i := 2) scC.nd rfl (Or.inl rfl))
        (pss_cons (ps_set (i := 1) scC.nd rfl (Or.inl rfl) (pe_op op_xor (pv 1) (pv 2)))
          (pss_one (ps_for PassesOwn.never rfl (pi_range1 rfl T.range (pa_cons pe_int pa_nil)) (pg_name (i := 3) scC.nd rfl (Or.inl rfl))
            (pss_one (ps_set (i := 1) scC.nd rfl (Or.inl rfl) (pe_ifExp (pt_truth (pe_op op_and (pv 1) pe_int) (fun _ => rfl)) (pe_op op_xor (pe_op op_shr (pv 1) pe_int) (pe_gint hP)) (pe_op op_shr (pv 1) pe_int))))))))
      (pss_one (ps_ret (pe_op op_xor (pv 1) (pe_gint hO))))), ?_⟩
    refine ⟨_, rfl, a, rfl, ⟨_, hS⟩, for_list (K := K) (a := a) (xs := nV l) (fun i σ H' => ∃ v2 v3 : Option V, σ = [some (.ref a), some (.int (((l.take i).foldl Km345.crcByte 0xFFFFFFFF : Nat) : Int)), v2, v3] ∧ H' = H) ⟨none, none, rfl, rfl⟩ ?_ ?_ ?_⟩
    · rintro i σ H' _ ⟨_, _, _, rfl⟩
      exact hS
    · rintro i y σ H' hi ⟨v2, v3, rfl, rfl⟩
      obtain ⟨b, hb, rfl⟩ : ∃ b, l[i]? = some b ∧ y = V.int (b : Int) := by
        unfold nV at hi
        rw [List.getElem?_map] at hi
        cases e : l[i]? with
        | none => rw [e] at hi; cases hi
        | some z => rw [e] at hi; exact ⟨z, rfl, (Option.some.inj hi).symm⟩
      refine ⟨_, rfl, _, rfl, _, _, rfl, rfl, ?_⟩
      dsimp only
      rw [xor_eq]
      refine ⟨8, rfl, by decide, by decide, for_range (n := 8) (fun j σ H'' => ∃ v3 : Option V, σ = [some (.ref a), some (.int ((bitsN j ((l.take i).foldl Km345.crcByte 0xFFFFFFFF ^^^ b) : Nat) : Int)), some (.int (b : Int)), v3] ∧ H'' = H') ⟨v3, rfl, rfl⟩ ?_ ?_⟩
      · rintro j σ H'' hj ⟨v3, rfl, rfl⟩
        generalize hc : bitsN j ((l.take i).foldl Km345.crcByte 0xFFFFFFFF ^^^ b) = c
        refine ⟨_, rfl, _, _, rfl, rfl, _, rfl, ?_⟩
        have fin : ∀ x : Nat, x = Km345.crcBit c → ∃ v3 : Option V, ([some (.ref a), some (.int (c : Int)), some (.int (b : Int)), some (.int (0 + (j : Int)))] : L2.St).set 1 (some (.int (x : Int))) = [some (.ref a), some (.int ((bitsN (j + 1) ((l.take i).foldl Km345.crcByte 0xFFFFFFFF ^^^ b) : Nat) : Int)), some (.int (b : Int)), v3] ∧ H'' = H'' := fun x hx => by
          rw [bitsN_succ, hc, ← hx]
          exact ⟨_, rfl, rfl⟩
        dsimp only
        rw [low_eq]
        by_cases hb : c % 2 = 1
        · have ek : (((c % 2 : Nat) : Int) != 0) = true := by rw [hb]; rfl
          rw [ek]
          refine iteT ⟨_, rfl, _, _, rfl, rfl, (by show (0 : Int) ≤ 1; decide), _, _, rfl, rfl, ?_⟩
          dsimp only
          rw [half_eq, show (2197175160 : Int) = ((2197175160 : Nat) : Int) from rfl, xor_eq]
          exact fin _ (by unfold Km345.crcBit; rw [if_pos hb])
        · have ek : (((c % 2 : Nat) : Int) != 0) = false := by
            have : c % 2 = 0 := by omega
            rw [this]; rfl
          rw [ek]
          refine iteF ⟨_, rfl, _, _, rfl, rfl, (by show (0 : Int) ≤ 1; decide), ?_⟩
          dsimp only
          rw [half_eq]
          exact fin _ (by unfold Km345.crcBit; rw [if_neg hb])
      · rintro σ H'' ⟨v3, rfl, rfl⟩
        refine ⟨some (.int (b : Int)), v3, ?_, rfl⟩
        rw [take_snoc hb, List.foldl_append]
        rfl
    · rintro σ H' ⟨v2, v3, rfl, rfl⟩
      refine ⟨_, rfl, _, _, rfl, rfl, ?_⟩
      dsimp only
      rw [nV_length, List.take_length, show (4294967295 : Int) = ((4294967295 : Nat) : Int) from rfl, xor_eq]
      exact k

/-! ### with_check -/
theorem le_length (w v : Nat) : (Km345.le w v).length = w := by
  unfold Km345.le
  rw [List.length_map, List.length_range]
theorem scW : FnScope ["octets"] ["octets"] (defScope sWith) := ⟨rfl, rfl, rfl, by decide +kernel, rfl, by decide +kernel, by decide +kernel⟩
theorem ok_with {f fL fC CO : Addr} {fd fdL fdC : FuncData} (F : Fun K "with_check" "with_check" sWith f fd) (T : TxM K mg CO)
    (FL : Fun K "low_byte_first" "low_byte_first" sLbf fL fdL) (bL : Binds K fdL ["number", "size"] []) (mL : mg "low_byte_first" = some (.ref fL))
    (FC : Fun K "check_of" "check_of" sChk fC fdC) (bC : Binds K fdC ["octets"] []) (mC : mg "check_of" = some (.ref fC)) : FnOk P w K mg base CX0 2 f fd ["octets"] spWith := by
  have GL : FnOk P w K mg base CX0 1 fL fdL ["number", "size"] spLbf := ok_lbf FL T
  have GC : FnOk P w K mg base CX0 1 fC fdC ["octets"] (spChk K) := ok_chk FC T
  refine F.ok scW (fun vs H Q E h => ?_) (fun cdv A outer s H vs Q E hr h => ?_)
  · obtain ⟨a, l, rfl, _⟩ := h
    rfl
  · obtain ⟨a, l, rfl, hl, hlen, k⟩ := h
    refine ⟨_, pss_one (ps_ret (pe_op op_cat (pv 0) (pe_call GL hr rfl mL FL.kp bL .nil pass0 (pa_cons (pe_call GC hr rfl mC FC.kp bC .nil pass0 (pa_cons (pv 0) pa_nil)) (pa_cons pe_int pa_nil))))), ?_⟩
    refine ⟨_, rfl, _, rfl, a, l, rfl, SqL.of hl, Km345.crc l, 4, rfl, by decide, fun H1 q s1 hq h1 => ?_⟩
    have s1 : Same H H1 := s1
    refine ⟨a, q, _, _, rfl, rfl, s1 _ _ hl, h1, ?_, fun r hr1 => ?_⟩
    · rw [nV_length, nV_length, le_length]
      exact line_of_le (by omega)
    · refine k _ r (same_add s1 hr1) (s1.free hr1) ?_
      rw [upd_same, ← nV_append]
      rfl

/-! ### order_message, seal_message -/
theorem scOM : FnScope ["order", "head", "when", "what"] ["order"] (defScope sOMsg) := ⟨rfl, rfl, rfl, by decide +kernel, rfl, by decide +kernel, by decide +kernel⟩
theorem ok_omsg {f fL fW CO : Addr} {fd fdL fdW : FuncData} (F : Fun K "order_message" "order_message" sOMsg f fd) (T : TxM K mg CO)
    (GL : FnOk P w K mg base CX0 1 fL fdL ["number", "size"] spLbf) (kL : PySem.W.keepIn K (.ref fL) = true) (bL : Binds K fdL ["number", "size"] []) (mL : mg "low_byte_first" = some (.ref fL))
    (GW : FnOk P w K mg base CX0 2 fW fdW ["octets"] spWith) (kW : PySem.W.keepIn K (.ref fW) = true) (bW : Binds K fdW ["octets"] []) (mW : mg "with_check" = some (.ref fW)) : FnOk P w K mg base CX0 3 f fd ["order"] (spOMsg CO) := by
  obtain ⟨t1, hK⟩ := T.okind
  refine F.ok scOM (fun vs H Q E h => ?_) (fun cdv A outer s H vs Q E hr h => ?_)
  · obtain ⟨a, o, rfl, _⟩ := h
    rfl
  · obtain ⟨a, o, rfl, ⟨dx, ha⟩, k⟩ := h
    have hr1 : Room 1 _ := hr.mono (by decide)
    refine ⟨_, pss_cons (ps_set (i := 1) scOM.nd rfl (Or.inl rfl) (pe_lst (pa_cons (pe_gint hK) (pa_cons (pe_fld (pv 0) rfl) (pa_cons (pe_fld (pv 0) rfl) (pa_cons pe_int pa_nil))))))
      (pss_cons (ps_set (i := 2) scOM.nd rfl (Or.inl rfl) (pe_op op_cat (pe_call GL hr1 rfl mL kL bL .nil pass0 (pa_cons (pe_fld (pv 0) rfl) (pa_cons pe_int pa_nil))) (pe_call GL hr1 rfl mL kL bL .nil pass0 (pa_cons (pe_fld (pv 0) rfl) (pa_cons pe_int pa_nil)))))
      (pss_cons (ps_set (i := 3) scOM.nd rfl (Or.inl rfl) (pe_op op_cat (pe_call GL hr1 rfl mL kL bL .nil pass0 (pa_cons (pe_fld (pv 0) rfl) (pa_cons pe_int pa_nil))) (pe_call GL hr1 rfl mL kL bL .nil pass0 (pa_cons (pe_fld (pv 0) rfl) (pa_cons pe_int pa_nil)))))
      (pss_one (ps_ret (pe_call GW hr rfl mW kW bW .nil pass0 (pa_cons (pe_op op_cat (pe_op op_cat (pv 1) (pv 2)) (pv 3)) pa_nil)))))), ?_⟩
    -- head
    refine ⟨_, rfl, a, CO, dx, _, _, rfl, ha, T.clO, T.nChannel, ofs_channel o, _, rfl, a, CO, dx, _, _, rfl, ha, T.clO, T.nBus, ofs_bus o, (by show 4 ≤ sizeLine; decide), fun h1 n1 => ?_⟩
    have s1 : Same H (upd H h1 (.lst (nV [1, o.channel, o.bus, 0]))) := same_new n1
    -- when
    refine ⟨_, rfl, a, CO, dx, _, _, rfl, s1 _ _ ha, T.clO, T.nNumber, ofs_number o, o.number, 4, rfl, by decide, fun H2 q2 s2 n2 e2 => ?_⟩
    refine ⟨_, rfl, a, CO, dx, _, _, rfl, s2 _ _ (s1 _ _ ha), T.clO, T.nTime, ofs_time o, o.time, 8, rfl, by decide, fun H3 q3 s3 n3 e3 => ?_⟩
    refine ⟨q2, q3, _, _, rfl, rfl, s3 _ _ e2, e3, (by simp only [List.length_append, nV_length, le_length, List.length_cons, List.length_nil]; decide), fun h2 n4 => ?_⟩
    have s4 : Same H3 (upd H3 h2 (.lst (nV (Km345.le 4 o.number) ++ nV (Km345.le 8 o.time)))) := same_new n4
    -- what
    refine ⟨_, rfl, a, CO, dx, _, _, rfl, s4 _ _ (s3 _ _ (s2 _ _ (s1 _ _ ha))), T.clO, T.nGain, ofs_gain o, o.gain, 4, rfl, by decide, fun H5 q5 s5 n5 e5 => ?_⟩
    refine ⟨_, rfl, a, CO, dx, _, _, rfl, s5 _ _ (s4 _ _ (s3 _ _ (s2 _ _ (s1 _ _ ha)))), T.clO, T.nFade, ofs_fade o, o.fade, 4, rfl, by decide, fun H6 q6 s6 n6 e6 => ?_⟩
    refine ⟨q5, q6, _, _, rfl, rfl, s6 _ _ e5, e6, (by simp only [List.length_append, nV_length, le_length, List.length_cons, List.length_nil]; decide), fun h3 n7 => ?_⟩
    have s7 : Same H6 (upd H6 h3 (.lst (nV (Km345.le 4 o.gain) ++ nV (Km345.le 4 o.fade)))) := same_new n7
    have s37 := s4.trans (s5.trans (s6.trans s7))
    have s27 := s2.trans (s3.trans s37)
    -- return
    refine ⟨_, rfl, _, rfl, h1, h2, _, _, rfl, rfl, s27 _ _ upd_same, (s5.trans (s6.trans s7)) _ _ upd_same, (by simp only [List.length_append, nV_length, le_length, List.length_cons, List.length_nil]; decide), fun h4 n8 => ?_⟩
    have s8 : Same _ _ := same_new (o := .lst (nV [1, o.channel, o.bus, 0] ++ (nV (Km345.le 4 o.number) ++ nV (Km345.le 8 o.time)))) n8
    refine ⟨_, rfl, h4, h3, _, _, rfl, rfl, upd_same, s8 _ _ upd_same, (by simp only [List.length_append, nV_length, le_length, List.length_cons, List.length_nil]; decide), fun h5 n9 => ?_⟩
    have eq : (nV [1, o.channel, o.bus, 0] ++ (nV (Km345.le 4 o.number) ++ nV (Km345.le 8 o.time))) ++ (nV (Km345.le 4 o.gain) ++ nV (Km345.le 4 o.fade)) = nV ([1, o.channel, o.bus, 0] ++ (Km345.le 4 o.number ++ (Km345.le 8 o.time ++ (Km345.le 4 o.gain ++ Km345.le 4 o.fade)))) := by
      simp only [nV_append, List.append_assoc]
    have s9 := same_new (o := .lst ((nV [1, o.channel, o.bus, 0] ++ (nV (Km345.le 4 o.number) ++ nV (Km345.le 8 o.time))) ++ (nV (Km345.le 4 o.gain) ++ nV (Km345.le 4 o.fade)))) n9
    have sall := s1.trans (s27.trans (s8.trans s9))
    refine ⟨h5, _, rfl, Eq.trans upd_same (congrArg (fun q => some (HO.lst q)) eq), (by simp only [List.length_append, nV_length, le_length, List.length_cons, List.length_nil]; decide), fun H' p sp np hp => ?_⟩
    exact k H' p (sall.trans sp) (sall.free np) hp
theorem scSM : FnScope ["seal", "head"] ["seal"] (defScope sSMsg) := ⟨rfl, rfl, rfl, by decide +kernel, rfl, by decide +kernel, by decide +kernel⟩
theorem ok_smsg {f fL fW CO CS : Addr} {fd fdL fdW : FuncData} (F : Fun K "seal_message" "seal_message" sSMsg f fd) (T : TxM K mg CO) (TS : TxS K CS)
    (GL : FnOk P w K mg base CX0 1 fL fdL ["number", "size"] spLbf) (kL : PySem.W.keepIn K (.ref fL) = true) (bL : Binds K fdL ["number", "size"] []) (mL : mg "low_byte_first" = some (.ref fL))
    (GW : FnOk P w K mg base CX0 2 fW fdW ["octets"] spWith) (kW : PySem.W.keepIn K (.ref fW) = true) (bW : Binds K fdW ["octets"] []) (mW : mg "with_check" = some (.ref fW)) : FnOk P w K mg base CX0 3 f fd ["seal"] (spSMsg CS) := by
  obtain ⟨t1, hK⟩ := T.skind
  refine F.ok scSM (fun vs H Q E h => ?_) (fun cdv A outer s H vs Q E hr h => ?_)
  · obtain ⟨a, z, rfl, _⟩ := h
    rfl
  · obtain ⟨a, z, rfl, ⟨dx, ha⟩, k⟩ := h
    have hr1 : Room 1 _ := hr.mono (by decide)
    refine ⟨_, pss_cons (ps_set (i := 1) scSM.nd rfl (Or.inl rfl) (pe_lst (pa_cons (pe_gint hK) (pa_cons pe_int (pa_cons pe_int (pa_cons pe_int pa_nil))))))
      (pss_one (ps_ret (pe_call GW hr rfl mW kW bW .nil pass0 (pa_cons (pe_op op_cat (pe_op op_cat (pe_op op_cat (pv 1)
        (pe_call GL hr1 rfl mL kL bL .nil pass0 (pa_cons (pe_fld (pv 0) rfl) (pa_cons pe_int pa_nil)))) (pe_call GL hr1 rfl mL kL bL .nil pass0 (pa_cons (pe_fld (pv 0) rfl) (pa_cons pe_int pa_nil)))) (pe_op op_rep (pe_lst (pa_cons pe_int pa_nil)) pe_int)) pa_nil)))), ?_⟩
    refine ⟨(by show 4 ≤ sizeLine; decide), fun h1 n1 => ?_⟩
    have s1 : Same H (upd H h1 (.lst (nV [2, 0, 0, 0]))) := same_new n1
    refine ⟨_, rfl, _, rfl, a, CS, dx, _, _, rfl, s1 _ _ ha, TS.cl, TS.nNumber, sfs_number z, z.many, 4, rfl, by decide, fun H2 q2 s2 n2 e2 => ?_⟩
    refine ⟨h1, q2, _, _, rfl, rfl, s2 _ _ upd_same, e2, (by simp only [List.length_append, nV_length, le_length, List.length_cons, List.length_nil]; decide), fun h3 n3 => ?_⟩
    have s3 : Same H2 (upd H2 h3 (.lst (nV [2, 0, 0, 0] ++ nV (Km345.le 4 z.many)))) := same_new n3
    refine ⟨_, rfl, a, CS, dx, _, _, rfl, s3 _ _ (s2 _ _ (s1 _ _ ha)), TS.cl, TS.nTime, sfs_time z, z.time, 8, rfl, by decide, fun H4 q4 s4 n4 e4 => ?_⟩
    refine ⟨h3, q4, _, _, rfl, rfl, s4 _ _ upd_same, e4, (by simp only [List.length_append, nV_length, le_length, List.length_cons, List.length_nil]; decide), fun h5 n5 => ?_⟩
    have s5 : Same H4 (upd H4 h5 (.lst ((nV [2, 0, 0, 0] ++ nV (Km345.le 4 z.many)) ++ nV (Km345.le 8 z.time)))) := same_new n5
    refine ⟨(by show 1 ≤ sizeLine; decide), fun h6 n6 => ?_⟩
    have s6 := same_new (o := .lst (nV [0])) n6
    refine ⟨h6, 8, _, rfl, rfl, upd_same, (by decide), (by decide), (by show 1 * 8 ≤ sizeLine; decide), fun h7 n7 => ?_⟩
    have s7 := same_new (o := .lst (nV (Km345.le 8 0))) n7
    refine ⟨h5, h7, _, _, rfl, rfl, (s6.trans s7) _ _ upd_same, upd_same, (by simp only [List.length_append, nV_length, le_length, List.length_cons, List.length_nil]; decide), fun h8 n8 => ?_⟩
    have s8 := same_new (o := .lst (((nV [2, 0, 0, 0] ++ nV (Km345.le 4 z.many)) ++ nV (Km345.le 8 z.time)) ++ nV (Km345.le 8 0))) n8
    have eq : ((nV [2, 0, 0, 0] ++ nV (Km345.le 4 z.many)) ++ nV (Km345.le 8 z.time)) ++ nV (Km345.le 8 0) = nV ([2, 0, 0, 0] ++ (Km345.le 4 z.many ++ (Km345.le 8 z.time ++ Km345.le 8 0))) := by
      simp only [nV_append, List.append_assoc]
    have sall := s1.trans (s2.trans (s3.trans (s4.trans (s5.trans (s6.trans (s7.trans s8))))))
    refine ⟨h8, _, rfl, Eq.trans upd_same (congrArg (fun q => some (HO.lst q)) eq), (by simp only [List.length_append, nV_length, le_length, List.length_cons, List.length_nil]; decide), fun H' p sp np hp => ?_⟩
    exact k H' p (sall.trans sp) (sall.free np) hp
end
end Sb

set_option Elab.async false
set_option maxRecDepth 100000
set_option maxHeartbeats 4000000
/-! sizes_as_told. -/
namespace Sb
open PySem PySem.Spec PyProof.Rows L2
abbrev sSizes : Stmt := top 13
def Sized (c b : Nat) : Prop := (1 ≤ c ∧ c ≤ 32) ∧ (1 ≤ b ∧ b ≤ 8)
instance (c b : Nat) : Decidable (Sized c b) := by unfold Sized; infer_instance
def spSizes : Sp := fun vs H Q _ => ∃ c b : Nat, vs = [.int (c : Int), .int (b : Int)] ∧ Q (.bl (decide (Sized c b))) H
section
variable {P : Program} {w : World} {K : PySem.W.Frag} {mg : Str → Option Value} {base : Heap}
theorem scZ : FnScope ["channels", "buses"] ["channels", "buses"] (defScope sSizes) := ⟨rfl, rfl, rfl, by decide +kernel, rfl, by decide +kernel, by decide +kernel⟩
theorem ok_sizes {f : Addr} {fd : FuncData} (F : Fun K "sizes_as_told" "sizes_as_told" sSizes f fd) (h1 : ∃ t, mg "CHANNELS_MOST" = some (.int 32 t)) (h2 : ∃ t, mg "BUSES_MOST" = some (.int 8 t)) : FnOk P w K mg base CX0 1 f fd ["channels", "buses"] spSizes := by
  obtain ⟨t1, hC⟩ := h1
  obtain ⟨t2, hB⟩ := h2
  refine F.ok scZ (fun vs H Q E h => ?_) (fun cdv A outer s H vs Q E hr h => ?_)
  · obtain ⟨c, b, rfl, _⟩ := h
    rfl
  · obtain ⟨c, b, rfl, k⟩ := h
    refine ⟨_, pss_one (ps_ret (pe_and (pe_chain op_le op_le pe_int (pv 0) (pe_gint hC)) (pe_one (pe_chain op_le op_le pe_int (pv 1) (pe_gint hB))))), ?_⟩
    have no : ¬ Sized c b → Q (.bl false) H := fun h => by
      rw [decide_eq_false h] at k
      exact k
    refine ⟨_, rfl, _, _, rfl, rfl, _, rfl, ite2 (fun a1 => ⟨_, _, rfl, rfl, _, rfl, ite2 (fun a2 => ?_) (fun a2 => no (fun z => a2 (decide_eq_true (by have := z.1.2; omega))))⟩) (fun a1 => ⟨_, rfl, iteF (no (fun z => a1 (decide_eq_true (by have := z.1.1; omega))))⟩)⟩
    have a1 := of_decide_eq_true a1
    have a2 := of_decide_eq_true a2
    refine ⟨_, rfl, _, _, rfl, rfl, _, rfl, ite2 (fun a3 => ⟨_, _, rfl, rfl, ?_⟩) (fun a3 => no (fun z => a3 (decide_eq_true (by have := z.2.1; omega))))⟩
    have a3 := of_decide_eq_true a3
    have e : decide (Sized c b) = decide ((b : Int) ≤ 8) := by
      by_cases hb : (b : Int) ≤ 8
      · rw [decide_eq_true hb]
        exact decide_eq_true ⟨⟨by omega, by omega⟩, by omega, by omega⟩
      · rw [decide_eq_false hb]
        exact decide_eq_false (fun z => hb (by have := z.2.2; omega))
    rw [e] at k
    exact k
end
end Sb

set_option Elab.async false
set_option maxRecDepth 100000
set_option maxHeartbeats 4000000
/-! The desk: the class's methods keep to the specification. -/
namespace Sb
open PySem PySem.Spec PyProof.Rows L2
open Km345 (Desk Order)

abbrev sDInit : Stmt := inClass (top 55) 0
abbrev sBegin : Stmt := inClass (top 55) 1
abbrev sStart : Stmt := inClass (top 55) 2
abbrev sSet : Stmt := inClass (top 55) 3
abbrev sKeep : Stmt := inClass (top 55) 4
abbrev sGo : Stmt := inClass (top 55) 5
abbrev sSeal : Stmt := inClass (top 55) 6
abbrev sAgain : Stmt := inClass (top 55) 7
abbrev sAdd : Stmt := inClass (top 55) 8

/-! ### a desk's attributes -/
def dfs (ch bu : Nat) (ol : Addr) (se la : Nat) (gl tl sl : Addr) : List (Str × V) :=
  [("channels", .int (ch : Int)), ("buses", .int (bu : Int)), ("orders", .ref ol), ("sealed", .int (se : Int)), ("latest", .int (la : Int)), ("goals", .ref gl), ("goal_times", .ref tl), ("scenes", .ref sl)]
section
variable {ch bu : Nat} {ol : Addr} {se la : Nat} {gl tl sl : Addr}
theorem dfs_channels : (dfs ch bu ol se la gl tl sl).lookup ("channels" : Str) = some (.int (ch : Int)) := lk_here
theorem dfs_buses : (dfs ch bu ol se la gl tl sl).lookup ("buses" : Str) = some (.int (bu : Int)) := lk_next (by decide +kernel) lk_here
theorem dfs_orders : (dfs ch bu ol se la gl tl sl).lookup ("orders" : Str) = some (.ref ol) := lk_next (by decide +kernel) (lk_next (by decide +kernel) lk_here)
theorem dfs_sealed : (dfs ch bu ol se la gl tl sl).lookup ("sealed" : Str) = some (.int (se : Int)) := lk_next (by decide +kernel) (lk_next (by decide +kernel) (lk_next (by decide +kernel) lk_here))
theorem dfs_latest : (dfs ch bu ol se la gl tl sl).lookup ("latest" : Str) = some (.int (la : Int)) := lk_next (by decide +kernel) (lk_next (by decide +kernel) (lk_next (by decide +kernel) (lk_next (by decide +kernel) lk_here)))
theorem dfs_goals : (dfs ch bu ol se la gl tl sl).lookup ("goals" : Str) = some (.ref gl) := lk_next (by decide +kernel) (lk_next (by decide +kernel) (lk_next (by decide +kernel) (lk_next (by decide +kernel) (lk_next (by decide +kernel) lk_here))))
theorem dfs_times : (dfs ch bu ol se la gl tl sl).lookup ("goal_times" : Str) = some (.ref tl) := lk_next (by decide +kernel) (lk_next (by decide +kernel) (lk_next (by decide +kernel) (lk_next (by decide +kernel) (lk_next (by decide +kernel) (lk_next (by decide +kernel) lk_here)))))
theorem dfs_scenes : (dfs ch bu ol se la gl tl sl).lookup ("scenes" : Str) = some (.ref sl) := lk_next (by decide +kernel) (lk_next (by decide +kernel) (lk_next (by decide +kernel) (lk_next (by decide +kernel) (lk_next (by decide +kernel) (lk_next (by decide +kernel) (lk_next (by decide +kernel) lk_here))))))
theorem dfs_no {m : Str} (h1 : (m == ("channels" : Str)) = false) (h2 : (m == ("buses" : Str)) = false) (h3 : (m == ("orders" : Str)) = false) (h4 : (m == ("sealed" : Str)) = false) (h5 : (m == ("latest" : Str)) = false) (h6 : (m == ("goals" : Str)) = false)
    (h7 : (m == ("goal_times" : Str)) = false) (h8 : (m == ("scenes" : Str)) = false) : (dfs ch bu ol se la gl tl sl).lookup m = none :=
  lk_next h1 (lk_next h2 (lk_next h3 (lk_next h4 (lk_next h5 (lk_next h6 (lk_next h7 (lk_next h8 rfl)))))))
theorem dfs_put_sealed (x : Nat) : putF "sealed" (.int (x : Int)) (dfs ch bu ol se la gl tl sl) = dfs ch bu ol x la gl tl sl :=
  put_next (by decide +kernel) (put_next (by decide +kernel) (put_next (by decide +kernel) put_here))
theorem dfs_put_latest (x : Nat) : putF "latest" (.int (x : Int)) (dfs ch bu ol se la gl tl sl) = dfs ch bu ol se x gl tl sl :=
  put_next (by decide +kernel) (put_next (by decide +kernel) (put_next (by decide +kernel) (put_next (by decide +kernel) put_here)))
theorem dfs_len : (dfs ch bu ol se la gl tl sl).length = 8 := rfl
end
/-- none of them, or a desk's -/
def Fresh (fs : List (Str × V)) : Prop := fs = [] ∨ ∃ ch bu ol se la gl tl sl, fs = dfs ch bu ol se la gl tl sl
theorem Fresh.len {fs : List (Str × V)} (h : Fresh fs) : fs.length ≤ 8 := by
  rcases h with rfl | ⟨ch, bu, ol, se, la, gl, tl, sl, rfl⟩
  · exact Nat.zero_le _
  · exact Nat.le_refl _
theorem Fresh.no {fs : List (Str × V)} (h : Fresh fs) {m : Str} (h1 : (m == ("channels" : Str)) = false) (h2 : (m == ("buses" : Str)) = false) (h3 : (m == ("orders" : Str)) = false) (h4 : (m == ("sealed" : Str)) = false) (h5 : (m == ("latest" : Str)) = false)
    (h6 : (m == ("goals" : Str)) = false) (h7 : (m == ("goal_times" : Str)) = false) (h8 : (m == ("scenes" : Str)) = false) : fs.lookup m = none := by
  rcases h with rfl | ⟨ch, bu, ol, se, la, gl, tl, sl, rfl⟩
  · rfl
  · exact dfs_no h1 h2 h3 h4 h5 h6 h7 h8
theorem put8 {fs : List (Str × V)} (h : Fresh fs) (ch bu : Nat) (ol : Addr) (gl tl sl : Addr) :
    putF "scenes" (.ref sl) (putF "goal_times" (.ref tl) (putF "goals" (.ref gl) (putF "latest" (.int 0) (putF "sealed" (.int 0) (putF "orders" (.ref ol) (putF "buses" (.int (bu : Int)) (putF "channels" (.int (ch : Int)) fs))))))) = dfs ch bu ol 0 0 gl tl sl := by
  have n {a b : Str} (h : (a == b) = false) : ¬ a = b := fun e => by rw [e, beq_self_eq_true] at h; cases h
  rcases h with rfl | ⟨ch', bu', ol', se, la, gl', tl', sl', rfl⟩
  · rw [put_nil, put_next (n (by decide +kernel)) put_nil, put_next (n (by decide +kernel)) (put_next (n (by decide +kernel)) put_nil),
      put_next (n (by decide +kernel)) (put_next (n (by decide +kernel)) (put_next (n (by decide +kernel)) put_nil)),
      put_next (n (by decide +kernel)) (put_next (n (by decide +kernel)) (put_next (n (by decide +kernel)) (put_next (n (by decide +kernel)) put_nil))),
      put_next (n (by decide +kernel)) (put_next (n (by decide +kernel)) (put_next (n (by decide +kernel)) (put_next (n (by decide +kernel)) (put_next (n (by decide +kernel)) put_nil)))),
      put_next (n (by decide +kernel)) (put_next (n (by decide +kernel)) (put_next (n (by decide +kernel)) (put_next (n (by decide +kernel)) (put_next (n (by decide +kernel)) (put_next (n (by decide +kernel)) put_nil))))),
      put_next (n (by decide +kernel)) (put_next (n (by decide +kernel)) (put_next (n (by decide +kernel)) (put_next (n (by decide +kernel)) (put_next (n (by decide +kernel)) (put_next (n (by decide +kernel)) (put_next (n (by decide +kernel)) put_nil))))))]
    rfl
  · unfold dfs
    rw [put_here, put_next (n (by decide +kernel)) put_here, put_next (n (by decide +kernel)) (put_next (n (by decide +kernel)) put_here),
      put_next (n (by decide +kernel)) (put_next (n (by decide +kernel)) (put_next (n (by decide +kernel)) put_here)),
      put_next (n (by decide +kernel)) (put_next (n (by decide +kernel)) (put_next (n (by decide +kernel)) (put_next (n (by decide +kernel)) put_here))),
      put_next (n (by decide +kernel)) (put_next (n (by decide +kernel)) (put_next (n (by decide +kernel)) (put_next (n (by decide +kernel)) (put_next (n (by decide +kernel)) put_here)))),
      put_next (n (by decide +kernel)) (put_next (n (by decide +kernel)) (put_next (n (by decide +kernel)) (put_next (n (by decide +kernel)) (put_next (n (by decide +kernel)) (put_next (n (by decide +kernel)) put_here))))),
      put_next (n (by decide +kernel)) (put_next (n (by decide +kernel)) (put_next (n (by decide +kernel)) (put_next (n (by decide +kernel)) (put_next (n (by decide +kernel)) (put_next (n (by decide +kernel)) (put_next (n (by decide +kernel)) put_here))))))]
    rfl

/-! ### a desk on the heap -/
/-- what stands under a scene's number -/
def SceneAt (H : Hp) (R : Addr → Prop) (ol gl tl : Addr) (s : List Nat) : Option V → Prop
  | none => s = []
  | some v => s ≠ [] ∧ ∃ a, v = .ref a ∧ H a = some (.lst (nV s)) ∧ R a ∧ a ≠ ol ∧ a ≠ gl ∧ a ≠ tl
structure DeskBody (C CO : Addr) (H : Hp) (p : Addr) (d : Desk) (R : Addr → Prop) (dx ol gl tl sl : Addr) (oas : List Addr) (kvs : List (Key × V)) : Prop where
  hp : H p = some (.ins C dx (dfs d.channels d.buses ol d.sealed (lastAll d.orders) gl tl sl))
  hol : H ol = some (.lst (oas.map V.ref))
  olen : oas.length = d.orders.length
  oat : ∀ (i : Nat) (a : Addr) (o : Order), oas[i]? = some a → d.orders[i]? = some o → OrdAt CO H a o
  hgl : H gl = some (.lst (nV d.goals))
  htl : H tl = some (.lst (nV (Desk.times d)))
  hsl : H sl = some (.dK kvs)
  kn : (kvs.map (·.1)).Nodup
  kk : ∀ kv ∈ kvs, ∃ k : Nat, k < 16 ∧ kv.1 = Sum.inl (k : Int)
  sc : ∀ k : Nat, k < 16 → SceneAt H R ol gl tl (d.scenes.getD k []) (valV kvs (Sum.inl (k : Int)))
  d1 : ol ≠ gl
  d2 : ol ≠ tl
  d3 : gl ≠ tl
  rp : R p
  rol : R ol
  rgl : R gl
  rtl : R tl
  rsl : R sl
  roas : ∀ a ∈ oas, R a
  all : ∀ b, R b → ∃ o, H b = some o
def DeskAt (C CO : Addr) (H : Hp) (p : Addr) (d : Desk) (R : Addr → Prop) : Prop := ∃ dx ol gl tl sl oas kvs, DeskBody C CO H p d R dx ol gl tl sl oas kvs
theorem SceneAt.frame {H H' : Hp} {R : Addr → Prop} {ol gl tl : Addr} {s : List Nat} {v : Option V} (h : SceneAt H R ol gl tl s v) (k : ∀ b, R b → b ≠ ol → b ≠ gl → b ≠ tl → H' b = H b) : SceneAt H' R ol gl tl s v := by
  cases v with
  | none => exact h
  | some v =>
    obtain ⟨h1, a, h2, h3, h4, h5, h6, h7⟩ := h
    exact ⟨h1, a, h2, by rw [k a h4 h5 h6 h7]; exact h3, h4, h5, h6, h7⟩
theorem DeskAt.frame {C CO : Addr} {H H' : Hp} {p : Addr} {d : Desk} {R : Addr → Prop} (h : DeskAt C CO H p d R) (k : ∀ b, R b → H' b = H b) : DeskAt C CO H' p d R := by
  obtain ⟨dx, ol, gl, tl, sl, oas, kvs, B⟩ := h
  refine ⟨dx, ol, gl, tl, sl, oas, kvs, ?_⟩
  exact { B with
    hp := by rw [k _ B.rp]; exact B.hp
    hol := by rw [k _ B.rol]; exact B.hol
    oat := fun i a o h1 h2 => by
      obtain ⟨dxo, e⟩ := B.oat i a o h1 h2
      exact ⟨dxo, by rw [k _ (B.roas a (List.mem_of_getElem? h1))]; exact e⟩
    hgl := by rw [k _ B.rgl]; exact B.hgl
    htl := by rw [k _ B.rtl]; exact B.htl
    hsl := by rw [k _ B.rsl]; exact B.hsl
    sc := fun i hi => (B.sc i hi).frame fun b h1 _ _ _ => k b h1
    all := fun b hb => by rw [k b hb]; exact B.all b hb }
theorem DeskAt.alloc {C CO : Addr} {H : Hp} {p : Addr} {d : Desk} {R : Addr → Prop} (h : DeskAt C CO H p d R) {b : Addr} (hb : R b) : ∃ o, H b = some o := by
  obtain ⟨dx, ol, gl, tl, sl, oas, kvs, B⟩ := h
  exact B.all b hb
theorem DeskAt.not {C CO : Addr} {H : Hp} {p : Addr} {d : Desk} {R : Addr → Prop} (h : DeskAt C CO H p d R) {b : Addr} (hb : H b = none) : ¬ R b := fun r => by
  obtain ⟨o, e⟩ := h.alloc r
  rw [e] at hb
  cases hb
theorem DeskAt.new {C CO : Addr} {H : Hp} {p : Addr} {d : Desk} {R : Addr → Prop} (h : DeskAt C CO H p d R) {b : Addr} {o : HO} (hb : H b = none) : DeskAt C CO (upd H b o) p d R :=
  h.frame fun x hx => upd_ne fun e => h.not hb (e ▸ hx)
/-- all else is as it was -/
def Kept (H H' : Hp) (R : Addr → Prop) : Prop := ∀ b o, H b = some o → ¬ R b → H' b = some o
/-- a desk's call answers -/
def RetD (C CO : Addr) (H : Hp) (p : Addr) (R : Addr → Prop) (d' : Desk) (ans : List Int) (Q : VK) : Prop :=
  ∀ (H' : Hp) (R' : Addr → Prop) (r : Addr), DeskAt C CO H' p d' R' → (∀ b, R' b → R b ∨ H b = none) → Kept H H' R → H' r = some (.lst (ans.map V.int)) → H r = none → ¬ R' r → Q (.ref r) H'
/-- a refusal -/
theorem RetD.refuse {C CO : Addr} {H : Hp} {p : Addr} {R : Addr → Prop} {d : Desk} {z : Int} {Q : VK} (k : RetD C CO H p R d [z] Q) (D : DeskAt C CO H p d R) {r : Addr} (hr : H r = none) : Q (.ref r) (upd H r (.lst [.int z])) :=
  k _ R r (D.new hr) (fun b hb => .inl hb) (fun b o e _ => same_new hr b o e) upd_same hr (D.not hr)

/-! ### what of the text the desk needs -/
structure TxD (K : PySem.W.Frag) (mg : Str → Option Value) (C : Addr) : Prop where
  cl : Cls K C
  nChannels : NoAttr K C "channels"
  nBuses : NoAttr K C "buses"
  nOrders : NoAttr K C "orders"
  nSealed : NoAttr K C "sealed"
  nLatest : NoAttr K C "latest"
  nGoals : NoAttr K C "goals"
  nTimes : NoAttr K C "goal_times"
  nScenes : NoAttr K C "scenes"
  len : mg "len" = none
  max : mg "max" = none
  list : mg "list" = none
  chMost : ∃ t, mg "CHANNELS_MOST" = some (.int 32 t)
  buMost : ∃ t, mg "BUSES_MOST" = some (.int 8 t)
  orMost : ∃ t, mg "ORDERS_MOST" = some (.int 4096 t)
  unit : ∃ t, mg "UNIT" = some (.int 65536 t)
  fade : ∃ t, mg "FADE_MOST" = some (.int 480000 t)
  tend : ∃ t, mg "TIME_END" = some (.int 281474976710656 t)
  scenes : ∃ t, mg "SCENES" = some (.int 16 t)
  there : ∃ t, mg "NOT_THERE" = some (.int (-2) t)
  early : ∃ t, mg "TOO_EARLY" = some (.int (-13) t)
  told : ∃ t, mg "NOT_AS_TOLD" = some (.int (-22) t)
  room : ∃ t, mg "NO_ROOM" = some (.int (-28) t)

/-! ### promises -/
def spBegin (C CO : Addr) : Sp := fun vs H Q _ => ∃ (p dx : Addr) (fs : List (Str × V)) (c b : Nat), vs = [.ref p, .int (c : Int), .int (b : Int)] ∧ c ≤ 32 ∧ b ≤ 8 ∧ H p = some (.ins C dx fs) ∧ Fresh fs ∧
  ∀ (H' : Hp) (R' : Addr → Prop), DeskAt C CO H' p (Km345.desk0 c b) R' → (∀ x, R' x → x = p ∨ H x = none) → (∀ x o, H x = some o → x ≠ p → H' x = some o) → Q .non H'
def spDInit (C CO : Addr) : Sp := fun vs H Q _ => ∃ (p dx : Addr), vs = [.ref p] ∧ H p = some (.ins C dx []) ∧
  ∀ (H' : Hp) (R' : Addr → Prop), DeskAt C CO H' p (Km345.desk0 0 0) R' → (∀ x, R' x → x = p ∨ H x = none) → (∀ x o, H x = some o → x ≠ p → H' x = some o) → Q .non H'
def spStart (C CO : Addr) : Sp := fun vs H Q _ => ∃ (p : Addr) (d : Desk) (R : Addr → Prop) (c b : Nat), vs = [.ref p, .int (c : Int), .int (b : Int)] ∧ DeskAt C CO H p d R ∧
  RetD C CO H p R (Km345.dDoes d (.dStart c b)).1 (Km345Neutral.told (Km345.dDoes d (.dStart c b)).2) Q
def spSet (C CO : Addr) : Sp := fun vs H Q _ => ∃ (p : Addr) (d : Desk) (R : Addr → Prop) (c b g f t : Nat), vs = [.ref p, .int (c : Int), .int (b : Int), .int (g : Int), .int (f : Int), .int (t : Int)] ∧ DOk d ∧ DeskAt C CO H p d R ∧
  RetD C CO H p R (Km345.dDoes d (.dSet c b g f t)).1 (Km345Neutral.told (Km345.dDoes d (.dSet c b g f t)).2) Q
def spKeep (C CO : Addr) : Sp := fun vs H Q _ => ∃ (p : Addr) (d : Desk) (R : Addr → Prop) (k : Nat), vs = [.ref p, .int (k : Int)] ∧ DOk d ∧ DeskAt C CO H p d R ∧
  RetD C CO H p R (Km345.dDoes d (.dKeep k)).1 (Km345Neutral.told (Km345.dDoes d (.dKeep k)).2) Q
def spGo (C CO : Addr) : Sp := fun vs H Q _ => ∃ (p : Addr) (d : Desk) (R : Addr → Prop) (k f t : Nat), vs = [.ref p, .int (k : Int), .int (f : Int), .int (t : Int)] ∧ DOk d ∧ DeskAt C CO H p d R ∧
  RetD C CO H p R (Km345.dDoes d (.dGo k f t)).1 (Km345Neutral.told (Km345.dDoes d (.dGo k f t)).2) Q
def spSeal (C CO : Addr) : Sp := fun vs H Q _ => ∃ (p : Addr) (d : Desk) (R : Addr → Prop) (t : Nat), vs = [.ref p, .int (t : Int)] ∧ DOk d ∧ DeskAt C CO H p d R ∧
  RetD C CO H p R (Km345.dDoes d (.dSeal t)).1 (Km345Neutral.told (Km345.dDoes d (.dSeal t)).2) Q
def spAgain (C CO : Addr) : Sp := fun vs H Q _ => ∃ (p : Addr) (d : Desk) (R : Addr → Prop) (n : Nat), vs = [.ref p, .int (n : Int)] ∧ DOk d ∧ DeskAt C CO H p d R ∧
  RetD C CO H p R d (Km345Neutral.told (Km345.dDoes d (.dAgain n)).2) Q
def spAdd (C CO : Addr) : Sp := fun vs H Q _ => ∃ (p oa : Addr) (d : Desk) (R : Addr → Prop) (o : Order) (dx ol gl tl sl : Addr) (oas : List Addr) (kvs : List (Key × V)), vs = [.ref p, .ref oa] ∧ DOk d ∧ DeskBody C CO H p d R dx ol gl tl sl oas kvs ∧
  OrdAt CO H oa o ∧ o.number = d.orders.length ∧ o.channel < d.channels ∧ o.bus < d.buses ∧ d.orders.length < 4096 ∧
  ∀ H' : Hp, DeskBody C CO H' p (d.gives o.channel o.bus o.gain o.fade o.time) (fun b => R b ∨ b = oa) dx ol gl tl sl (oas ++ [oa]) kvs → (∀ b, b ≠ p → b ≠ ol → b ≠ gl → b ≠ tl → H' b = H b) → Q .non H'

section
variable {P : Program} {w : World} {K : PySem.W.Frag} {mg : Str → Option Value} {base : Heap}
theorem rep_getD (n i : Nat) : (List.replicate n ([] : List Nat)).getD i [] = [] := by
  rw [List.getD_eq_getElem?_getD, List.getElem?_replicate]
  split <;> rfl
theorem ixN_nat {n q : Nat} (h : q < n) : ixN n (q : Int) = some q := by
  unfold ixN
  rw [if_pos (by omega), if_pos (by omega)]
  simp
theorem bg_step {H Hi : Hp} {p a : Addr} {q o o' : HO} (fr : ∀ x u, H x = some u → x ≠ p → Hi x = some u) (hp : Hi p = some q) (ha : Hi a = none) :
    (upd (upd Hi a o) p o') p = some o' ∧ (upd (upd Hi a o) p o') a = some o ∧ (∀ x u, Hi x = some u → x ≠ p → (upd (upd Hi a o) p o') x = some u) ∧ a ≠ p ∧ H a = none := by
  have n : a ≠ p := fun e => by rw [e, hp] at ha; cases ha
  refine ⟨upd_same, by rw [upd_ne n, upd_same], fun x u e nx => by rw [upd_ne nx, upd_ne (ne_of_none e ha)]; exact e, n, ?_⟩
  cases e : H a with
  | none => rfl
  | some u => rw [fr a u e n] at ha; cases ha
theorem fr_trans {H H1 H2 : Hp} {p : Addr} (a : ∀ x u, H x = some u → x ≠ p → H1 x = some u) (b : ∀ x u, H1 x = some u → x ≠ p → H2 x = some u) : ∀ x u, H x = some u → x ≠ p → H2 x = some u := fun x u e n => b x u (a x u e n) n
/-! ### begin, __init__ -/
theorem scBg : FnScope ["self", "channels", "buses"] ["self", "channels", "buses"] (defScope sBegin) := ⟨rfl, rfl, rfl, by decide +kernel, rfl, by decide +kernel, by decide +kernel⟩
theorem rep0 (n : Nat) : (List.replicate n [V.int 0]).flatten = nV (List.replicate n 0) := by
  induction n with
  | zero => rfl
  | succ n ih =>
    rw [List.replicate_succ, List.flatten_cons, ih, List.replicate_succ]
    rfl
theorem ok_begin {f C CO : Addr} {fd : FuncData} (F : Fun K "begin" "Desk.begin" sBegin f fd) (T : TxD K mg C) : FnOk P w K mg base CX0 1 f fd ["self", "channels", "buses"] (spBegin C CO) := by
  refine F.ok scBg (fun vs H Q E h => ?_) (fun cdv A outer s H vs Q E hr h => ?_)
  · obtain ⟨p, dx, fs, c, b, rfl, _⟩ := h
    rfl
  · obtain ⟨p, dx, fs, c, b, rfl, hc, hb, hp, hfs, k⟩ := h
    have hl := hfs.len
    have hcb : c * b ≤ 256 := Nat.mul_le_mul hc hb
    refine ⟨_, pss_cons (ps_fld (pv 0) (pv 1) rfl) (pss_cons (ps_fld (pv 0) (pv 2) rfl) (pss_cons (ps_fld (pv 0) (pe_lst pa_nil) rfl) (pss_cons (ps_fld (pv 0) pe_int rfl) (pss_cons (ps_fld (pv 0) pe_int rfl)
      (pss_cons (ps_fld (pv 0) (pe_op op_rep (pe_lst (pa_cons pe_int pa_nil)) (pe_op op_mul (pv 1) (pv 2))) rfl) (pss_cons (ps_fld (pv 0) (pe_op op_rep (pe_lst (pa_cons pe_int pa_nil)) (pe_op op_mul (pv 1) (pv 2))) rfl)
      (pss_one (ps_fld (pv 0) pe_dnewK rfl)))))))), ?_⟩
    have pl : ∀ {n : Nat} {g : Str} {v : V} {gs : List (Str × V)}, gs.length ≤ n → (putF g v gs).length ≤ n + 1 := fun h => Nat.le_trans (length_putF _ _ _) (Nat.succ_le_succ h)
    -- channels, buses
    refine ⟨_, rfl, _, rfl, p, C, dx, _, rfl, hp, T.cl, T.nChannels, by omega, ?_⟩
    refine ⟨_, rfl, _, rfl, p, C, dx, _, rfl, upd_same, T.cl, T.nBuses, Nat.lt_of_le_of_lt (pl hl) (by decide), ?_⟩
    rw [upd_upd]
    generalize e1 : upd H p (.ins C dx (putF "buses" (.int (b : Int)) (putF "channels" (.int (c : Int)) fs))) = H1
    have p1 : H1 p = some (.ins C dx (putF "buses" (.int (b : Int)) (putF "channels" (.int (c : Int)) fs))) := by rw [← e1]; exact upd_same
    have f1 : ∀ x o, H x = some o → x ≠ p → H1 x = some o := fun x o e nx => by rw [← e1, upd_ne nx]; exact e
    -- orders
    refine ⟨Nat.zero_le _, fun ol nol => ⟨_, rfl, p, C, dx, _, rfl, (upd_ne (ne_of_none p1 nol)).trans p1, T.cl, T.nOrders, Nat.lt_of_le_of_lt (pl (pl hl)) (by decide), ?_⟩⟩
    obtain ⟨p2, a2, f2, n2, g2⟩ := bg_step (H := H) (o := .lst []) (o' := .ins C dx (putF "orders" (.ref ol) (putF "buses" (.int (b : Int)) (putF "channels" (.int (c : Int)) fs)))) f1 p1 nol
    generalize e2 : upd (upd H1 ol (.lst [])) p (.ins C dx (putF "orders" (.ref ol) (putF "buses" (.int (b : Int)) (putF "channels" (.int (c : Int)) fs)))) = H2 at p2 a2 f2
    have F2 := fr_trans f1 f2
    -- sealed, latest
    refine ⟨_, rfl, p, C, dx, _, rfl, p2, T.cl, T.nSealed, Nat.lt_of_le_of_lt (pl (pl (pl hl))) (by decide), ?_⟩
    refine ⟨_, rfl, p, C, dx, _, rfl, upd_same, T.cl, T.nLatest, Nat.lt_of_le_of_lt (pl (pl (pl (pl hl)))) (by decide), ?_⟩
    rw [upd_upd]
    generalize e3 : upd H2 p (.ins C dx (putF "latest" (.int 0) (putF "sealed" (.int 0) (putF "orders" (.ref ol) (putF "buses" (.int (b : Int)) (putF "channels" (.int (c : Int)) fs)))))) = H3
    have p3 : H3 p = some (.ins C dx (putF "latest" (.int 0) (putF "sealed" (.int 0) (putF "orders" (.ref ol) (putF "buses" (.int (b : Int)) (putF "channels" (.int (c : Int)) fs)))))) := by rw [← e3]; exact upd_same
    have f3 : ∀ x o, H2 x = some o → x ≠ p → H3 x = some o := fun x o e nx => by rw [← e3, upd_ne nx]; exact e
    have F3 := fr_trans F2 f3
    -- goals
    refine ⟨(by show 1 ≤ sizeLine; decide), fun z1 nz1 => ?_⟩
    have q1 : Same H3 (upd H3 z1 (.lst [.int 0])) := same_new nz1
    refine ⟨_, rfl, _, rfl, _, _, rfl, rfl, .inl ⟨by omega, by omega⟩, ?_⟩
    dsimp only
    rw [← Int.natCast_mul]
    refine ⟨z1, _, _, rfl, rfl, upd_same, by omega, by omega, (by show 1 * (c * b) ≤ sizeLine; exact line_of_le (by omega)), fun gl ngl => ?_⟩
    refine ⟨_, rfl, p, C, dx, _, rfl, (upd_ne (ne_of_none (q1 _ _ p3) ngl)).trans (q1 _ _ p3), T.cl, T.nGoals, Nat.lt_of_le_of_lt (pl (pl (pl (pl (pl hl))))) (by decide), ?_⟩
    have r1 : (List.replicate ((c * b : Nat) : Int).toNat [V.int 0]).flatten = nV (List.replicate (c * b) 0) := rep0 (c * b)
    rw [r1]
    obtain ⟨p4, a4, f4, n4, g4⟩ := bg_step (H := H) (o := .lst (nV (List.replicate (c * b) 0))) (o' := .ins C dx (putF "goals" (.ref gl) (putF "latest" (.int 0) (putF "sealed" (.int 0) (putF "orders" (.ref ol) (putF "buses" (.int (b : Int)) (putF "channels" (.int (c : Int)) fs))))))) (fun x o e nx => q1 _ _ (F3 x o e nx)) (q1 _ _ p3) ngl
    have g4' : H3 gl = none := q1.free ngl
    generalize e4 : upd (upd (upd H3 z1 (.lst [.int 0])) gl (.lst (nV (List.replicate (c * b) 0)))) p (.ins C dx (putF "goals" (.ref gl) (putF "latest" (.int 0) (putF "sealed" (.int 0) (putF "orders" (.ref ol) (putF "buses" (.int (b : Int)) (putF "channels" (.int (c : Int)) fs))))))) = H4 at p4 a4 f4
    have f4' : ∀ x o, H3 x = some o → x ≠ p → H4 x = some o := fun x o e nx => f4 x o (q1 _ _ e) nx
    have F4 := fr_trans F3 f4'
    -- goal_times
    refine ⟨(by show 1 ≤ sizeLine; decide), fun z2 nz2 => ?_⟩
    have q2 : Same H4 (upd H4 z2 (.lst [.int 0])) := same_new nz2
    refine ⟨_, rfl, _, rfl, _, _, rfl, rfl, .inl ⟨by omega, by omega⟩, ?_⟩
    dsimp only
    rw [← Int.natCast_mul]
    refine ⟨z2, _, _, rfl, rfl, upd_same, by omega, by omega, (by show 1 * (c * b) ≤ sizeLine; exact line_of_le (by omega)), fun tl ntl => ?_⟩
    refine ⟨_, rfl, p, C, dx, _, rfl, (upd_ne (ne_of_none (q2 _ _ p4) ntl)).trans (q2 _ _ p4), T.cl, T.nTimes, Nat.lt_of_le_of_lt (pl (pl (pl (pl (pl (pl hl)))))) (by decide), ?_⟩
    rw [r1]
    obtain ⟨p5, a5, f5, n5, g5⟩ := bg_step (H := H) (o := .lst (nV (List.replicate (c * b) 0))) (o' := .ins C dx (putF "goal_times" (.ref tl) (putF "goals" (.ref gl) (putF "latest" (.int 0) (putF "sealed" (.int 0) (putF "orders" (.ref ol) (putF "buses" (.int (b : Int)) (putF "channels" (.int (c : Int)) fs)))))))) (fun x o e nx => q2 _ _ (F4 x o e nx)) (q2 _ _ p4) ntl
    have g5' : H4 tl = none := q2.free ntl
    generalize e5 : upd (upd (upd H4 z2 (.lst [.int 0])) tl (.lst (nV (List.replicate (c * b) 0)))) p (.ins C dx (putF "goal_times" (.ref tl) (putF "goals" (.ref gl) (putF "latest" (.int 0) (putF "sealed" (.int 0) (putF "orders" (.ref ol) (putF "buses" (.int (b : Int)) (putF "channels" (.int (c : Int)) fs)))))))) = H5 at p5 a5 f5
    have f5' : ∀ x o, H4 x = some o → x ≠ p → H5 x = some o := fun x o e nx => f5 x o (q2 _ _ e) nx
    have F5 := fr_trans F4 f5'
    -- scenes
    intro sl nsl
    refine ⟨_, rfl, p, C, dx, _, rfl, (upd_ne (ne_of_none p5 nsl)).trans p5, T.cl, T.nScenes, Nat.lt_of_le_of_lt (pl (pl (pl (pl (pl (pl (pl hl))))))) (by decide), ?_⟩
    obtain ⟨p6, a6, f6, n6, g6⟩ := bg_step (H := H) (o := .dK []) (o' := .ins C dx (putF "scenes" (.ref sl) (putF "goal_times" (.ref tl) (putF "goals" (.ref gl) (putF "latest" (.int 0) (putF "sealed" (.int 0) (putF "orders" (.ref ol) (putF "buses" (.int (b : Int)) (putF "channels" (.int (c : Int)) fs))))))))) F5 p5 nsl
    generalize e6 : upd (upd H5 sl (.dK [])) p (.ins C dx (putF "scenes" (.ref sl) (putF "goal_times" (.ref tl) (putF "goals" (.ref gl) (putF "latest" (.int 0) (putF "sealed" (.int 0) (putF "orders" (.ref ol) (putF "buses" (.int (b : Int)) (putF "channels" (.int (c : Int)) fs))))))))) = H6 at p6 a6 f6
    rw [put8 hfs] at p6
    have b4 := f6 _ _ (f5' _ _ a4 n4) n4
    have b5 := f6 _ _ a5 n5
    have b2 := f6 _ _ (f5' _ _ (f4' _ _ (f3 _ _ a2 n2) n2) n2) n2
    have F6 := fr_trans F5 f6
    refine k H6 (fun x => x = p ∨ x = ol ∨ x = gl ∨ x = tl ∨ x = sl) ⟨dx, ol, gl, tl, sl, [], [], ?_⟩ ?_ F6
    · refine ⟨p6, b2, rfl, fun i a o h1 h2 => ?_, ?_, ?_, a6, List.nodup_nil, fun kv hkv => ?_, fun i hi => ?_, ?_, ?_, ?_, .inl rfl, .inr (.inl rfl), .inr (.inr (.inl rfl)), .inr (.inr (.inr (.inl rfl))), .inr (.inr (.inr (.inr rfl))), fun a ha => ?_, fun x hx => ?_⟩
      · simp at h1
      · rw [desk0_goals]; exact b4
      · rw [desk0_times]; exact b5
      · cases hkv
      · show (List.replicate 16 ([] : List Nat)).getD i [] = []
        exact rep_getD 16 i
      · exact fun z => absurd (f3 _ _ a2 n2) (by rw [z, g4']; simp)
      · exact fun z => absurd (f4' _ _ (f3 _ _ a2 n2) n2) (by rw [z, g5']; simp)
      · exact fun z => absurd a4 (by rw [z, g5']; simp)
      · cases ha
      · rcases hx with rfl | rfl | rfl | rfl | rfl
        · exact ⟨_, p6⟩
        · exact ⟨_, b2⟩
        · exact ⟨_, b4⟩
        · exact ⟨_, b5⟩
        · exact ⟨_, a6⟩
    · rintro x (rfl | rfl | rfl | rfl | rfl)
      · exact .inl rfl
      · exact .inr g2
      · exact .inr g4
      · exact .inr g5
      · exact .inr g6

theorem scDI : FnScope ["self"] ["self"] (defScope sDInit) := ⟨rfl, rfl, rfl, by decide +kernel, rfl, by decide +kernel, by decide +kernel⟩
theorem ok_dinit {f fB C CO : Addr} {fd fdB : FuncData} (F : Fun K "__init__" "Desk.__init__" sDInit f fd) (T : TxD K mg C) (GB : FnOk P w K mg base CX0 1 fB fdB ["self", "channels", "buses"] (spBegin C CO)) (bB : Binds K fdB ["self", "channels", "buses"] []) (mB : Meth K C "begin" fB) :
    FnOk P w K mg base CX0 2 f fd ["self"] (spDInit C CO) := by
  refine F.ok scDI (fun vs H Q E h => ?_) (fun cdv A outer s H vs Q E hr h => ?_)
  · obtain ⟨p, dx, rfl, _⟩ := h
    rfl
  · obtain ⟨p, dx, rfl, hp, k⟩ := h
    refine ⟨_, pss_one (ps_expr (pe_meth (pv 0) T.cl mB GB hr bB .nil pass0 (pa_cons pe_int (pa_cons pe_int pa_nil)))), ?_⟩
    exact ⟨_, rfl, p, dx, _, rfl, hp, rfl, p, dx, _, 0, 0, rfl, by decide, by decide, hp, .inl rfl, fun H' R' a b c => k H' R' a b c⟩

/-! ### add_order -/
theorem scAd : FnScope ["self", "order", "place"] ["self", "order"] (defScope sAdd) := ⟨rfl, rfl, rfl, by decide +kernel, rfl, by decide +kernel, by decide +kernel⟩
theorem times_length (d : Desk) : (Desk.times d).length = d.channels * d.buses := by
  unfold Desk.times
  rw [List.length_map, List.length_range]
theorem ok_add {f C CO : Addr} {fd : FuncData} (F : Fun K "add_order" "Desk.add_order" sAdd f fd) (T : TxD K mg C) (TM : TxM K mg CO) : FnOk P w K mg base CX0 1 f fd ["self", "order"] (spAdd C CO) := by
  refine F.ok scAd (fun vs H Q E h => ?_) (fun cdv A outer s H vs Q E hr h => ?_)
  · obtain ⟨p, oa, d, R, o, dx, ol, gl, tl, sl, oas, kvs, rfl, _⟩ := h
    rfl
  · obtain ⟨p, oa, d, R, o, dx, ol, gl, tl, sl, oas, kvs, rfl, ok, B, ⟨dxo, ho⟩, hnum, hch, hbu, hm, k⟩ := h
    refine ⟨_, pss_cons (ps_expr (pe_bm PySem.F.plainAttrs_list PySem.F.slot_list_append PySem.F.type_list_append mt_append (pe_fld (pv 0) rfl) (pa_cons (pv 1) pa_nil)))
      (pss_cons (ps_fld (pv 0) (pe_callB (call_max2 rfl) rfl T.max PyProof.Rows.boot_max (pa_cons (pe_fld (pv 0) rfl) (pa_cons (pe_fld (pv 1) rfl) pa_nil))) rfl)
      (pss_cons (ps_set (i := 2) scAd.nd rfl (Or.inl rfl) (pe_op op_add (pe_op op_mul (pe_fld (pv 1) rfl) (pe_fld (pv 0) rfl)) (pe_fld (pv 1) rfl)))
      (pss_one (ps_if (pt_cmpR op_ge (pe_fld (pv 1) rfl) (pe_ix ix_list (pe_fld (pv 0) rfl) (pv 2) (fun _ _ => rfl)) (nomark _))
        (pss_cons (ps_asg (pe_fld (pv 1) rfl) (pg_sub (pe_fld (pv 0) rfl) (pv 2) set_list)) (pss_one (ps_asg (pe_fld (pv 1) rfl) (pg_sub (pe_fld (pv 0) rfl) (pv 2) set_list)))) pss_nil)))), ?_⟩
    have n_po : p ≠ ol := ne_of B.hp B.hol (by intro z; cases z)
    have n_pg : p ≠ gl := ne_of B.hp B.hgl (by intro z; cases z)
    have n_pt : p ≠ tl := ne_of B.hp B.htl (by intro z; cases z)
    have n_ps : p ≠ sl := ne_of B.hp B.hsl (by intro z; cases z)
    have n_oo : oa ≠ ol := ne_of ho B.hol (by intro z; cases z)
    have n_og : oa ≠ gl := ne_of ho B.hgl (by intro z; cases z)
    have n_ot : oa ≠ tl := ne_of ho B.htl (by intro z; cases z)
    have n_op : oa ≠ p := ne_of ho B.hp (by intro z; injection z with _ _ z; exact absurd (show (6 : Nat) = 8 from congrArg List.length z) (by decide))
    have n_so : sl ≠ ol := ne_of B.hsl B.hol (by intro z; cases z)
    have n_sg : sl ≠ gl := ne_of B.hsl B.hgl (by intro z; cases z)
    have n_st : sl ≠ tl := ne_of B.hsl B.htl (by intro z; cases z)
    -- self.orders.append(order)
    refine ⟨_, rfl, p, C, dx, _, _, rfl, B.hp, T.cl, T.nOrders, dfs_orders, .inl ⟨rfl, _, SqL.of B.hol⟩, _, rfl, ol, _, _, rfl, rfl, B.hol, ?_, ?_⟩
    · rw [List.length_map, B.olen]
      exact line_lt (by omega)
    generalize e1 : upd H ol (.lst (oas.map V.ref ++ [V.ref oa])) = H1
    have k1 : ∀ x, x ≠ ol → H1 x = H x := fun x hx => by rw [← e1]; exact upd_ne hx
    have ol1 : H1 ol = some (.lst ((oas ++ [oa]).map V.ref)) := by rw [← e1, upd_same, List.map_append]; rfl
    -- self.latest = max(self.latest, order.time)
    refine ⟨_, rfl, p, C, dx, _, _, rfl, (k1 p n_po).trans B.hp, T.cl, T.nLatest, dfs_latest, _, rfl, oa, CO, dxo, _, _, rfl, (k1 oa n_oo).trans ho, TM.clO, TM.nTime, ofs_time o, _, _, rfl, _, rfl, p, C, dx, _, rfl, (k1 p n_po).trans B.hp, T.cl, T.nLatest, (by rw [dfs_len]; decide), ?_⟩
    have hmax : (if (o.time : Int) > (lastAll d.orders : Int) then (o.time : Int) else (lastAll d.orders : Int)) = ((lastAll (d.orders ++ [o]) : Nat) : Int) := by
      rw [lastAll_snoc]
      by_cases h : lastAll d.orders < o.time
      · rw [if_pos (by omega), Nat.max_eq_right (by omega)]
      · rw [if_neg (by omega), Nat.max_eq_left (by omega)]
    dsimp only
    rw [hmax, dfs_put_latest]
    generalize e2 : upd H1 p (.ins C dx (dfs d.channels d.buses ol d.sealed (lastAll (d.orders ++ [o])) gl tl sl)) = H2
    have k2 : ∀ x, x ≠ p → H2 x = H1 x := fun x hx => by rw [← e2]; exact upd_ne hx
    have p2 : H2 p = some (.ins C dx (dfs d.channels d.buses ol d.sealed (lastAll (d.orders ++ [o])) gl tl sl)) := by rw [← e2]; exact upd_same
    have ho2 : H2 oa = some (.ins CO dxo (ofs o)) := by rw [k2 _ n_op, k1 _ n_oo]; exact ho
    have tl2 : H2 tl = some (.lst (nV (Desk.times d))) := by rw [k2 _ n_pt.symm, k1 _ B.d2.symm]; exact B.htl
    have gl2 : H2 gl = some (.lst (nV d.goals)) := by rw [k2 _ n_pg.symm, k1 _ B.d1.symm]; exact B.hgl
    have ol2 : H2 ol = some (.lst ((oas ++ [oa]).map V.ref)) := by rw [k2 _ n_po.symm]; exact ol1
    -- place
    refine ⟨_, rfl, oa, CO, dxo, _, _, rfl, ho2, TM.clO, TM.nChannel, ofs_channel o, _, rfl, p, C, dx, _, _, rfl, p2, T.cl, T.nBuses, dfs_buses, _, _, rfl, rfl, .inl ⟨by have := ok.ch; omega, by have := ok.ch; omega⟩, _, rfl, oa, CO, dxo, _, _, rfl, ho2, TM.clO, TM.nBus, ofs_bus o, _, _, rfl, rfl, ?_⟩
    have hpl : ((o.channel : Int) * (d.buses : Int) + (o.bus : Int)) = ((o.channel * d.buses + o.bus : Nat) : Int) := by
      rw [Int.natCast_add, Int.natCast_mul]
    dsimp only
    rw [hpl]
    have hlt := place_lt hch hbu
    generalize hq : o.channel * d.buses + o.bus = q at hlt
    have hgt : (Desk.times d)[q]? = some ((Desk.times d).getD q 0) := by
      have : q < (Desk.times d).length := by rw [times_length]; exact hlt
      simp [this]
    -- the end, whatever was stored
    have fin : ∀ (H3 : Hp) (ts gs : List Nat), H3 tl = some (.lst (nV ts)) → H3 gl = some (.lst (nV gs)) → (∀ x, x ≠ tl → x ≠ gl → H3 x = H2 x) → (ts, gs) = (Desk.times (d.gives o.channel o.bus o.gain o.fade o.time), (d.gives o.channel o.bus o.gain o.fade o.time).goals) → Q .non H3 := fun H3 ts gs ht hg k3 e => by
      obtain ⟨e1, e2⟩ := Prod.mk.inj e
      subst e1 e2
      have eo : (d.gives o.channel o.bus o.gain o.fade o.time).orders = d.orders ++ [o] := by
        show d.orders ++ [Order.mk d.orders.length o.time o.channel o.bus o.gain o.fade] = _
        rw [← hnum]
      have k0 : ∀ x, x ≠ ol → x ≠ gl → x ≠ tl → x ≠ p → H3 x = H x := fun x h1 h2 h3 h4 => by rw [k3 x h3 h2, k2 x h4, k1 x h1]
      refine k H3 ?_ fun b h1 h2 h3 h4 => k0 b h2 h3 h4 h1
      · refine ⟨?_, ?_, ?_, ?_, hg, ht, ?_, B.kn, B.kk, ?_, B.d1, B.d2, B.d3, .inl B.rp, .inl B.rol, .inl B.rgl, .inl B.rtl, .inl B.rsl, ?_, ?_⟩
        · rw [k3 p n_pt n_pg, p2, eo]
          rfl
        · rw [k3 ol B.d2 B.d1]
          exact ol2
        · rw [eo, List.length_append, List.length_append, B.olen]
          rfl
        · intro i a o' h1 h2
          rw [eo] at h2
          by_cases hi : i < oas.length
          · rw [List.getElem?_append_left hi] at h1
            rw [List.getElem?_append_left (by rw [← B.olen]; exact hi)] at h2
            obtain ⟨dxa, ha⟩ := B.oat i a o' h1 h2
            refine ⟨dxa, ?_⟩
            rw [k0 a (ne_of ha B.hol (by intro z; cases z)) (ne_of ha B.hgl (by intro z; cases z)) (ne_of ha B.htl (by intro z; cases z)) (ne_of ha B.hp (by intro z; injection z with _ _ z; exact absurd (show (6 : Nat) = 8 from congrArg List.length z) (by decide)))]
            exact ha
          · have hi' : i = oas.length := by
              have := (List.getElem?_eq_some_iff.mp h1).1
              rw [List.length_append] at this
              have : ([oa] : List Addr).length = 1 := rfl
              omega
            subst hi'
            rw [List.getElem?_append_right (Nat.le_refl _), Nat.sub_self] at h1
            rw [List.getElem?_append_right (by rw [B.olen]; exact Nat.le_refl _), B.olen, Nat.sub_self] at h2
            have e3 : oa = a := Option.some.inj h1
            have e4 : o = o' := Option.some.inj h2
            subst e3 e4
            exact ⟨dxo, by rw [k3 _ n_ot n_og]; exact ho2⟩
        · rw [k0 sl n_so n_sg n_st n_ps.symm]
          exact B.hsl
        · intro i hi
          have := B.sc i hi
          show SceneAt H3 _ ol gl tl (d.scenes.getD i []) _
          cases ev : valV kvs (Sum.inl (i : Int)) with
          | none =>
            rw [ev] at this
            exact this
          | some v =>
            rw [ev] at this
            obtain ⟨h1, a, h2, h3, h4, h5, h6, h7⟩ := this
            refine ⟨h1, a, h2, ?_, .inl h4, h5, h6, h7⟩
            rw [k0 a h5 h6 h7 (ne_of h3 B.hp (by intro z; cases z))]
            exact h3
        · intro a ha
          rcases List.mem_append.mp ha with ha | ha
          · exact .inl (B.roas a ha)
          · exact .inr (List.mem_singleton.mp ha)
        · rintro x (hx | rfl)
          · by_cases h1 : x = ol
            · exact ⟨_, by rw [h1, k3 ol B.d2 B.d1]; exact ol2⟩
            · by_cases h2 : x = gl
              · exact ⟨_, by rw [h2]; exact hg⟩
              · by_cases h3 : x = tl
                · exact ⟨_, by rw [h3]; exact ht⟩
                · by_cases h4 : x = p
                  · exact ⟨_, by rw [h4, k3 p n_pt n_pg]; exact p2⟩
                  · obtain ⟨u, hu⟩ := B.all x hx
                    exact ⟨u, by rw [k0 x h1 h2 h3 h4]; exact hu⟩
          · exact ⟨_, by rw [k3 _ n_ot n_og]; exact ho2⟩
    have gl8 := gives_lists ok (g := o.gain) (f := o.fade) (t := o.time) hch hbu
    rw [hq] at gl8
    -- if order.time >= self.goal_times[place]
    refine ⟨_, rfl, oa, CO, dxo, _, _, rfl, ho2, TM.clO, TM.nTime, ofs_time o, _, rfl, p, C, dx, _, _, rfl, p2, T.cl, T.nTimes, dfs_times, _, rfl, tl, _, _, _, rfl, rfl, SqL.of tl2, atI_nat (nV_get hgt), _, _, rfl, rfl, _, rfl, ?_⟩
    refine ite2 (fun hc => ?_) (fun hc => ?_)
    · have hc : (Desk.times d).getD q 0 ≤ o.time := by
        have := of_decide_eq_true hc
        omega
      rw [if_pos hc] at gl8
      have ixq : ixN (nV (Desk.times d)).length (q : Int) = some q := ixN_nat (by rw [nV_length, times_length]; exact hlt)
      have ixg : ixN (nV d.goals).length (q : Int) = some q := ixN_nat (by rw [nV_length, goals_length]; exact hlt)
      refine ⟨_, rfl, oa, CO, dxo, _, _, rfl, ho2, TM.clO, TM.nTime, ofs_time o, _, rfl, p, C, dx, _, _, rfl, p2, T.cl, T.nTimes, dfs_times, _, rfl, tl, _, _, q, rfl, rfl, tl2, ixq, ?_⟩
      generalize e3 : upd H2 tl (.lst ((nV (Desk.times d)).set q (V.int (o.time : Int)))) = H3
      have k3 : ∀ x, x ≠ tl → H3 x = H2 x := fun x hx => by rw [← e3]; exact upd_ne hx
      have tl3 : H3 tl = some (.lst (nV ((Desk.times d).set q o.time))) := by rw [← e3, upd_same, nV_set]
      refine ⟨_, rfl, oa, CO, dxo, _, _, rfl, (k3 _ n_ot).trans ho2, TM.clO, TM.nGain, ofs_gain o, _, rfl, p, C, dx, _, _, rfl, (k3 _ n_pt).trans p2, T.cl, T.nGoals, dfs_goals, _, rfl, gl, _, _, q, rfl, rfl, (k3 _ B.d3).trans gl2, ixg, ?_⟩
      refine fin _ ((Desk.times d).set q o.time) (d.goals.set q o.gain) ?_ ?_ ?_ gl8.symm
      · rw [upd_ne B.d3.symm]
        exact tl3
      · rw [upd_same, nV_set]
      · intro x h1 h2
        rw [upd_ne h2, k3 x h1]
    · have hc : ¬ (Desk.times d).getD q 0 ≤ o.time := fun z => hc (decide_eq_true (by omega))
      rw [if_neg hc] at gl8
      exact fin H2 (Desk.times d) d.goals tl2 gl2 (fun x _ _ => rfl) gl8.symm
end
end Sb

set_option Elab.async false
set_option maxRecDepth 100000
set_option maxHeartbeats 4000000
/-! The desk's calls. -/
namespace Sb
open PySem PySem.Spec PyProof.Rows L2
open Km345 (Desk Order)
section
variable {P : Program} {w : World} {K : PySem.W.Frag} {mg : Str → Option Value} {base : Heap}

theorem DeskAt.same {C CO : Addr} {H H' : Hp} {p : Addr} {d : Desk} {R : Addr → Prop} (h : DeskAt C CO H p d R) (s : Same H H') : DeskAt C CO H' p d R := h.frame fun b hb => by
  obtain ⟨o, e⟩ := h.alloc hb
  rw [e]
  exact s b o e
theorem DeskAt.fs {C CO : Addr} {H : Hp} {p : Addr} {d : Desk} {R : Addr → Prop} (h : DeskAt C CO H p d R) : ∃ dx fs, H p = some (.ins C dx fs) ∧ Fresh fs := by
  obtain ⟨dx, ol, gl, tl, sl, oas, kvs, B⟩ := h
  exact ⟨dx, _, B.hp, .inr ⟨_, _, _, _, _, _, _, _, rfl⟩⟩
theorem map_nums (l : List Nat) : (Km345Neutral.nums l).map V.int = nV l := by
  unfold Km345Neutral.nums nV
  rw [List.map_map]
  rfl
theorem told_order (o : Order) : (Km345Neutral.told (Km345.told o)).map V.int = [V.int (o.number : Int)] ++ nV o.bytes := by
  show V.int (o.number : Int) :: ((Km345Neutral.nums o.bytes ++ []).map V.int) = _
  rw [List.append_nil, map_nums]
  rfl

/-! ### sd_again -/
theorem scAg : FnScope ["self", "number"] ["self", "number"] (defScope sAgain) := ⟨rfl, rfl, rfl, by decide +kernel, rfl, by decide +kernel, by decide +kernel⟩
theorem checked_length (l : List Nat) : (Km345.checked l).length = l.length + 4 := by
  unfold Km345.checked
  rw [List.length_append, le_length]
theorem order_length (o : Order) : o.bytes.length = 28 := by
  unfold Order.bytes
  rw [checked_length]
  simp only [List.length_append, le_length]
  rfl
theorem seal_length (z : Km345.Seal) : z.bytes.length = 28 := by
  unfold Km345.Seal.bytes
  rw [checked_length]
  simp only [List.length_append, le_length]
  rfl
theorem ok_again {f fM C CO : Addr} {fd fdM : FuncData} (F : Fun K "sd_again" "Desk.sd_again" sAgain f fd) (T : TxD K mg C)
    (GM : FnOk P w K mg base CX0 3 fM fdM ["order"] (spOMsg CO)) (kM : PySem.W.keepIn K (.ref fM) = true) (bM : Binds K fdM ["order"] []) (mM : mg "order_message" = some (.ref fM)) : FnOk P w K mg base CX0 4 f fd ["self", "number"] (spAgain C CO) := by
  obtain ⟨t1, hT⟩ := T.there
  refine F.ok scAg (fun vs H Q E h => ?_) (fun cdv A outer s H vs Q E hr h => ?_)
  · obtain ⟨p, d, R, n, rfl, _⟩ := h
    rfl
  · obtain ⟨p, d, R, n, rfl, ok, D, k⟩ := h
    obtain ⟨dx, ol, gl, tl, sl, oas, kvs, B⟩ := D
    have D : DeskAt C CO H p d R := ⟨dx, ol, gl, tl, sl, oas, kvs, B⟩
    refine ⟨_, pss_cons (ps_if (pt_cmpR op_ge (pv 1) (pe_callB call_len_seq rfl T.len PySem.boot_len (pa_cons (pe_fld (pv 0) rfl) pa_nil)) (nomark _)) (pss_one (ps_ret (pe_lst (pa_cons (pe_gint hT) pa_nil)))) pss_nil)
      (pss_one (ps_ret (pe_op op_cat (pe_lst (pa_cons (pv 1) pa_nil)) (pe_call GM hr rfl mM kM bM .nil pass0 (pa_cons (pe_ix ix_list (pe_fld (pv 0) rfl) (pv 1) (fun _ _ => rfl)) pa_nil))))), ?_⟩
    refine ⟨_, rfl, _, rfl, p, C, dx, _, _, rfl, B.hp, T.cl, T.nOrders, dfs_orders, ol, _, rfl, .inl (SqL.of B.hol), _, _, rfl, rfl, _, rfl, ?_⟩
    rw [List.length_map, B.olen]
    refine ite2 (fun hc => ?_) (fun hc => ?_)
    · have hc : d.orders.length ≤ n := by
        have := of_decide_eq_true hc
        omega
      rw [dAgain_2 hc] at k
      exact ⟨(by show 1 ≤ sizeLine; decide), fun r hr => k.refuse D hr⟩
    · have hc : n < d.orders.length := by
        have : ¬ (d.orders.length : Int) ≤ (n : Int) := fun z => hc (decide_eq_true z)
        omega
      have ho := List.getElem?_eq_getElem hc
      have ha := List.getElem?_eq_getElem (show n < oas.length by rw [B.olen]; exact hc)
      rw [dAgain_ok ho] at k
      have oa := B.oat n _ _ ha ho
      have en := (ok.num n _ ho).1
      generalize d.orders[n] = o at ho oa en k
      generalize oas[n]'(by rw [B.olen]; exact hc) = a at ha oa
      refine ⟨_, rfl, (by show 1 ≤ sizeLine; decide), fun l1 n1 => ?_⟩
      have s1 : Same H (upd H l1 (.lst [.int (n : Int)])) := same_new n1
      obtain ⟨dxo, oa⟩ := oa
      refine ⟨_, rfl, p, C, dx, _, _, rfl, s1 _ _ B.hp, T.cl, T.nOrders, dfs_orders, _, rfl, ol, _, _, _, rfl, rfl, SqL.of (s1 _ _ B.hol), atI_nat (v := V.ref a) (by rw [List.getElem?_map, ha]; rfl), a, o, rfl, ⟨dxo, s1 _ _ oa⟩, fun H2 q s2 nq e2 => ?_⟩
      refine ⟨l1, q, _, _, rfl, rfl, s2 _ _ upd_same, e2, (by simp only [nV_length, order_length, List.length_cons, List.length_nil]; decide), fun r nr => ?_⟩
      have s3 := s1.trans (same_add s2 (o := .lst ([.int (n : Int)] ++ nV o.bytes)) nr)
      refine k _ R r (D.same s3) (fun b hb => .inl hb) (fun b u e _ => s3 b u e) ?_ ((s1.trans s2).free nr) (D.not ((s1.trans s2).free nr))
      rw [upd_same, told_order, en]

/-! ### sd_seal -/
theorem scSl : FnScope ["self", "time"] ["self", "time"] (defScope sSeal) := ⟨rfl, rfl, rfl, by decide +kernel, rfl, by decide +kernel, by decide +kernel⟩
theorem ok_seal {f fM fI C CO CS : Addr} {fd fdM fdI : FuncData} (F : Fun K "sd_seal" "Desk.sd_seal" sSeal f fd) (T : TxD K mg C) (MS : Mk K CS fI) (mS : mg "Seal" = some (.ref CS))
    (GI : FnOk P w K mg base CX0 1 fI fdI ["self", "number", "time"] (spSInit CS)) (bI : Binds K fdI ["self", "number", "time"] [])
    (GM : FnOk P w K mg base CX0 3 fM fdM ["seal"] (spSMsg CS)) (kM : PySem.W.keepIn K (.ref fM) = true) (bM : Binds K fdM ["seal"] []) (mM : mg "seal_message" = some (.ref fM)) : FnOk P w K mg base CX0 4 f fd ["self", "time"] (spSeal C CO) := by
  obtain ⟨t1, hT⟩ := T.tend
  obtain ⟨t2, h22⟩ := T.told
  obtain ⟨t3, h13⟩ := T.early
  refine F.ok scSl (fun vs H Q E h => ?_) (fun cdv A outer s H vs Q E hr h => ?_)
  · obtain ⟨p, d, R, t, rfl, _⟩ := h
    rfl
  · obtain ⟨p, d, R, t, rfl, ok, D, k⟩ := h
    obtain ⟨dx, ol, gl, tl, sl, oas, kvs, B⟩ := D
    have D : DeskAt C CO H p d R := ⟨dx, ol, gl, tl, sl, oas, kvs, B⟩
    have hr2 : Room 2 _ := hr.mono (by decide)
    refine ⟨_, pss_cons (ps_if (pt_cmpR op_gt (pv 1) (pe_gint hT) (nomark _)) (pss_one (ps_ret (pe_lst (pa_cons (pe_gint h22) pa_nil)))) pss_nil)
      (pss_cons (ps_if (pt_cmpR op_lt (pv 1) (pe_fld (pv 0) rfl) (nomark _)) (pss_one (ps_ret (pe_lst (pa_cons (pe_gint h13) pa_nil)))) pss_nil)
      (pss_cons (ps_fld (pv 0) (pv 1) rfl)
      (pss_one (ps_ret (pe_op op_cat (pe_lst (pa_cons (pe_callB call_len_seq rfl T.len PySem.boot_len (pa_cons (pe_fld (pv 0) rfl) pa_nil)) pa_nil)) (pe_call GM hr rfl mM kM bM .nil pass0 (pa_cons (pe_make MS GI hr2 rfl mS bI .nil pass0 (pa_cons (pe_callB call_len_seq rfl T.len PySem.boot_len (pa_cons (pe_fld (pv 0) rfl) pa_nil)) (pa_cons (pv 1) pa_nil))) pa_nil))))))), ?_⟩
    refine ⟨_, rfl, _, _, rfl, rfl, _, rfl, ite2 (fun hc => ?_) (fun hc => ?_)⟩
    · have hc := of_decide_eq_true hc
      rw [dSeal_22 (by omega)] at k
      exact ⟨(by show 1 ≤ sizeLine; decide), fun r hr => k.refuse D hr⟩
    have c1 : ¬ 281474976710656 < t := fun z => hc (decide_eq_true (by omega))
    refine ⟨_, rfl, _, rfl, p, C, dx, _, _, rfl, B.hp, T.cl, T.nSealed, dfs_sealed, _, _, rfl, rfl, _, rfl, ite2 (fun hc => ?_) (fun hc => ?_)⟩
    · have hc := of_decide_eq_true hc
      rw [dSeal_13 c1 (by omega)] at k
      exact ⟨(by show 1 ≤ sizeLine; decide), fun r hr => k.refuse D hr⟩
    have c2 : ¬ t < d.sealed := fun z => hc (decide_eq_true (by omega))
    rw [dSeal_ok c1 c2] at k
    refine ⟨_, rfl, _, rfl, p, C, dx, _, rfl, B.hp, T.cl, T.nSealed, (by rw [dfs_len]; decide), ?_⟩
    rw [dfs_put_sealed]
    generalize e1 : upd H p (.ins C dx (dfs d.channels d.buses ol t (lastAll d.orders) gl tl sl)) = H1
    have k1 : ∀ x, x ≠ p → H1 x = H x := fun x hx => by rw [← e1]; exact upd_ne hx
    have p1 : H1 p = some (.ins C dx (dfs d.channels d.buses ol t (lastAll d.orders) gl tl sl)) := by rw [← e1]; exact upd_same
    have n_po : p ≠ ol := ne_of B.hp B.hol (by intro z; cases z)
    have n_pg : p ≠ gl := ne_of B.hp B.hgl (by intro z; cases z)
    have n_pt : p ≠ tl := ne_of B.hp B.htl (by intro z; cases z)
    have n_ps : p ≠ sl := ne_of B.hp B.hsl (by intro z; cases z)
    have D1 : DeskAt C CO H1 p { d with sealed := t } R := by
      refine ⟨dx, ol, gl, tl, sl, oas, kvs, ?_⟩
      exact { hp := p1, hol := (k1 _ n_po.symm).trans B.hol, olen := B.olen, oat := fun i a o h1 h2 => by
                obtain ⟨dxo, e⟩ := B.oat i a o h1 h2
                exact ⟨dxo, (k1 _ (ne_of e B.hp (by intro z; injection z with _ _ z; exact absurd (show (6 : Nat) = 8 from congrArg List.length z) (by decide)))).trans e⟩,
              hgl := (k1 _ n_pg.symm).trans B.hgl, htl := (k1 _ n_pt.symm).trans B.htl, hsl := (k1 _ n_ps.symm).trans B.hsl, kn := B.kn, kk := B.kk, sc := fun i hi => by
                have := B.sc i hi
                show SceneAt H1 R ol gl tl (d.scenes.getD i []) _
                cases ev : valV kvs (Sum.inl (i : Int)) with
                | none => rw [ev] at this; exact this
                | some v =>
                  rw [ev] at this
                  obtain ⟨h1, a, h2, h3, h4, h5, h6, h7⟩ := this
                  exact ⟨h1, a, h2, (k1 _ (ne_of h3 B.hp (by intro z; cases z))).trans h3, h4, h5, h6, h7⟩,
              d1 := B.d1, d2 := B.d2, d3 := B.d3, rp := B.rp, rol := B.rol, rgl := B.rgl, rtl := B.rtl, rsl := B.rsl, roas := B.roas, all := fun b hb => by
                by_cases e : b = p
                · exact ⟨_, by rw [e]; exact p1⟩
                · rw [k1 b e]
                  exact B.all b hb }
    have hol1 := (k1 _ n_po.symm).trans B.hol
    refine ⟨_, rfl, p, C, dx, _, _, rfl, p1, T.cl, T.nOrders, dfs_orders, ol, _, rfl, .inl (SqL.of hol1), (by show 1 ≤ sizeLine; decide), fun l1 n1 => ?_⟩
    have s1 : Same H1 (upd H1 l1 (.lst [.int ((oas.map V.ref).length : Int)])) := same_new n1
    refine ⟨_, rfl, p, C, dx, _, _, rfl, s1 _ _ p1, T.cl, T.nOrders, dfs_orders, ol, _, rfl, .inl (SqL.of (s1 _ _ hol1)), _, rfl, fun x dxo nx ndx nex => ?_⟩
    refine ⟨x, dxo, ⟨d.orders.length, t⟩, ?_, upd_same, fun H1' sat k1' => ⟨rfl, ?_⟩⟩
    · rw [List.length_map, B.olen]
      all_goals rfl
    have sm : Same _ H1' := Same.made nx ndx k1'
    refine ⟨x, ⟨d.orders.length, t⟩, rfl, sat, fun H2 q s2' nq e2 => ?_⟩
    have s2 : Same (upd H1 l1 (.lst [.int ((oas.map V.ref).length : Int)])) H2 := sm.trans s2'
    refine ⟨l1, q, _, _, rfl, rfl, s2 _ _ upd_same, e2, (by simp only [nV_length, seal_length, List.length_cons, List.length_nil]; decide), fun r nr => ?_⟩
    have s3 := s1.trans (same_add s2 (o := .lst ([.int ((oas.map V.ref).length : Int)] ++ nV (⟨d.orders.length, t⟩ : Km345.Seal).bytes)) nr)
    have nr1 := (s1.trans s2).free nr
    have nr0 : H r = none := by
      have : r ≠ p := fun z => by rw [z, p1] at nr1; cases nr1
      rw [← k1 r this]
      exact nr1
    refine k _ R r (D1.same s3) (fun b hb => .inl hb) (fun b u e nb => s3 b u ((k1 b (fun z => nb (z ▸ B.rp))).trans e)) ?_ nr0 (D1.not nr1)
    rw [upd_same, List.length_map, B.olen]
    show some (HO.lst ([V.int (d.orders.length : Int)] ++ nV (⟨d.orders.length, t⟩ : Km345.Seal).bytes)) = some (HO.lst (V.int (d.orders.length : Int) :: ((Km345Neutral.nums (⟨d.orders.length, t⟩ : Km345.Seal).bytes ++ []).map V.int)))
    rw [List.append_nil, map_nums]
    rfl

/-! ### sd_start -/
theorem iteN {c A B : Prop} [Decidable c] (h1 : ¬ c → A) (h2 : c → B) : if (!decide c) = true then A else B := by
  by_cases h : c
  · rw [if_neg (by simp [h])]
    exact h2 h
  · rw [if_pos (by simp [h])]
    exact h1 h
theorem scSt : FnScope ["self", "channels", "buses"] ["self", "channels", "buses"] (defScope sStart) := ⟨rfl, rfl, rfl, by decide +kernel, rfl, by decide +kernel, by decide +kernel⟩
theorem ok_start {f fB fZ C CO : Addr} {fd fdB fdZ : FuncData} (F : Fun K "sd_start" "Desk.sd_start" sStart f fd) (T : TxD K mg C) (GB : FnOk P w K mg base CX0 1 fB fdB ["self", "channels", "buses"] (spBegin C CO)) (bB : Binds K fdB ["self", "channels", "buses"] []) (mB : Meth K C "begin" fB)
    (GZ : FnOk P w K mg base CX0 1 fZ fdZ ["channels", "buses"] spSizes) (kZ : PySem.W.keepIn K (.ref fZ) = true) (bZ : Binds K fdZ ["channels", "buses"] []) (mZ : mg "sizes_as_told" = some (.ref fZ)) :
    FnOk P w K mg base CX0 2 f fd ["self", "channels", "buses"] (spStart C CO) := by
  obtain ⟨t3, h22⟩ := T.told
  refine F.ok scSt (fun vs H Q E h => ?_) (fun cdv A outer s H vs Q E hr h => ?_)
  · obtain ⟨p, d, R, c, b, rfl, _⟩ := h
    rfl
  · obtain ⟨p, d, R, c, b, rfl, D, k⟩ := h
    refine ⟨_, pss_cons (ps_if (pt_not (pt_val (pe_call GZ hr rfl mZ kZ bZ .nil pass0 (pa_cons (pv 1) (pa_cons (pv 2) pa_nil))))) (pss_one (ps_ret (pe_lst (pa_cons (pe_gint h22) pa_nil)))) pss_nil)
      (pss_cons (ps_expr (pe_meth (pv 0) T.cl mB GB hr bB .nil pass0 (pa_cons (pv 1) (pa_cons (pv 2) pa_nil))))
      (pss_one (ps_ret (pe_lst (pa_cons pe_int pa_nil))))), ?_⟩
    obtain ⟨dx, fs, hp, hfs⟩ := D.fs
    have Rp : R p := by
      obtain ⟨dx, ol, gl, tl, sl, oas, kvs, B⟩ := D
      exact B.rp
    refine ⟨_, rfl, _, rfl, c, b, rfl, _, rfl, iteN (fun a => ?_) (fun a => ?_)⟩
    · rw [dStart_22 a] at k
      exact ⟨by decide, fun r hr => k.refuse D hr⟩
    have a : (1 ≤ c ∧ c ≤ 32) ∧ (1 ≤ b ∧ b ≤ 8) := a
    rw [dStart_ok a] at k
    refine ⟨_, rfl, p, dx, fs, rfl, hp, hfs.no (by decide +kernel) (by decide +kernel) (by decide +kernel) (by decide +kernel) (by decide +kernel) (by decide +kernel) (by decide +kernel) (by decide +kernel), _, rfl, _, rfl, p, dx, fs, c, b, rfl, by omega, by omega, hp, hfs, fun H' R' D' r' f' => ?_⟩
    refine ⟨(by show 1 ≤ sizeLine; decide), fun r nr => ?_⟩
    obtain ⟨dx', fs', hp', _⟩ := D'.fs
    have nr0 : H r = none := by
      cases e : H r with
      | none => rfl
      | some o =>
        by_cases z : r = p
        · rw [z, hp'] at nr; cases nr
        · rw [f' r o e z] at nr; cases nr
    refine k _ R' r (D'.new nr) (fun x hx => ?_) (fun x o e nx => ?_) upd_same nr0 (D'.not nr)
    · rcases r' x hx with rfl | h
      · exact .inl Rp
      · exact .inr h
    · exact same_new nr x o (f' x o e (fun z => nx (z ▸ Rp)))
end
end Sb

set_option Elab.async false
set_option maxRecDepth 100000
set_option maxHeartbeats 4000000
/-! sd_keep, sd_set, sd_go. -/
namespace Sb
open PySem PySem.Spec PyProof.Rows L2
open Km345 (Desk Order)
/-! ### keys of a dict -/
theorem putK_mem {κ : Type} [DecidableEq κ] {kvs : List (κ × V)} {k : κ} {v : V} {kv : κ × V} (h : kv ∈ putK kvs k v) : kv.1 = k ∨ ∃ q ∈ kvs, q.1 = kv.1 := by
  unfold putK at h
  split at h
  · obtain ⟨q, hq, e⟩ := List.mem_map.mp h
    by_cases z : q.1 = k
    · rw [if_pos z] at e
      subst e
      exact .inl z
    · rw [if_neg z] at e
      subst e
      exact .inr ⟨q, hq, rfl⟩
  · rcases List.mem_append.mp h with h | h
    · exact .inr ⟨kv, h, rfl⟩
    · rw [List.mem_singleton.mp h]
      exact .inl rfl
theorem putK_nodup {κ : Type} [DecidableEq κ] {kvs : List (κ × V)} {k : κ} (v : V) (h : (kvs.map (·.1)).Nodup) : ((putK kvs k v).map (·.1)).Nodup := by
  cases e : valV kvs k with
  | none => exact nd_putK v h e
  | some u =>
    have a : (kvs.any fun kv => decide (kv.1 = k)) = true := by rw [valV_any, e]; rfl
    unfold putK
    rw [if_pos a, List.map_map]
    have : (Prod.fst ∘ fun kv : κ × V => if kv.1 = k then (kv.1, v) else kv) = Prod.fst := by
      funext kv
      show (if kv.1 = k then (kv.1, v) else kv).1 = kv.1
      by_cases z : kv.1 = k
      · rw [if_pos z]
      · rw [if_neg z]
    rw [this]
    exact h
theorem keys_few {kvs : List (Key × V)} {n : Nat} (h : (kvs.map (·.1)).Nodup) (hk : ∀ kv ∈ kvs, ∃ k : Nat, k < n ∧ kv.1 = Sum.inl (k : Int)) : kvs.length ≤ n := by
  let g : Key → Nat := fun k => match k with | .inl i => i.toNat | .inr _ => 0
  have h1 : ((kvs.map (·.1)).map g).Nodup := by
    rw [List.Nodup, List.pairwise_map]
    refine List.Pairwise.imp_of_mem (fun {a b} ha hb hab => ?_) h
    obtain ⟨x, hx, rfl⟩ := List.mem_map.mp ha
    obtain ⟨y, hy, rfl⟩ := List.mem_map.mp hb
    obtain ⟨i, _, ei⟩ := hk x hx
    obtain ⟨j, _, ej⟩ := hk y hy
    intro z
    apply hab
    rw [ei, ej] at z ⊢
    have z : ((i : Int)).toNat = ((j : Int)).toNat := z
    have : i = j := by simpa using z
    rw [this]
  have h2 := nodup_bound n h1 (fun x hx => by
    obtain ⟨y, hy, rfl⟩ := List.mem_map.mp hx
    obtain ⟨q, hq, rfl⟩ := List.mem_map.mp hy
    obtain ⟨i, hi, ei⟩ := hk q hq
    rw [ei]
    show ((i : Int)).toNat < n
    simpa using hi)
  rw [List.length_map, List.length_map] at h2
  exact h2
section
variable {P : Program} {w : World} {K : PySem.W.Frag} {mg : Str → Option Value} {base : Heap}

/-! ### sd_keep -/
theorem scKp : FnScope ["self", "scene"] ["self", "scene"] (defScope sKeep) := ⟨rfl, rfl, rfl, by decide +kernel, rfl, by decide +kernel, by decide +kernel⟩
theorem ok_keep {f C CO : Addr} {fd : FuncData} (F : Fun K "sd_keep" "Desk.sd_keep" sKeep f fd) (T : TxD K mg C) : FnOk P w K mg base CX0 1 f fd ["self", "scene"] (spKeep C CO) := by
  obtain ⟨t1, hS⟩ := T.scenes
  obtain ⟨t2, h22⟩ := T.told
  refine F.ok scKp (fun vs H Q E h => ?_) (fun cdv A outer s H vs Q E hr h => ?_)
  · obtain ⟨p, d, R, i, rfl, _⟩ := h
    rfl
  · obtain ⟨p, d, R, i, rfl, ok, D, k⟩ := h
    obtain ⟨dx, ol, gl, tl, sl, oas, kvs, B⟩ := D
    have D : DeskAt C CO H p d R := ⟨dx, ol, gl, tl, sl, oas, kvs, B⟩
    refine ⟨_, pss_cons (ps_if (pt_cmpR op_ge (pv 1) (pe_gint hS) (nomark _)) (pss_one (ps_ret (pe_lst (pa_cons (pe_gint h22) pa_nil)))) pss_nil)
      (pss_cons (ps_dput (hu_of hr) (pe_fld (pv 0) rfl) (pv 1) (pe_callTy call_list_of rfl T.list PyProof.Rows.boot_list (pa_cons (pe_fld (pv 0) rfl) pa_nil)) rfl)
      (pss_one (ps_ret (pe_lst (pa_cons pe_int pa_nil))))), ?_⟩
    refine ⟨_, rfl, _, _, rfl, rfl, _, rfl, ite2 (fun hc => ?_) (fun hc => ?_)⟩
    · have hc := of_decide_eq_true hc
      rw [dKeep_22 (by omega)] at k
      exact ⟨(by show 1 ≤ sizeLine; decide), fun r hr => k.refuse D hr⟩
    have c1 : ¬ 16 ≤ i := fun z => hc (decide_eq_true (by omega))
    rw [dKeep_ok c1] at k
    refine ⟨_, rfl, p, C, dx, _, _, rfl, B.hp, T.cl, T.nGoals, dfs_goals, gl, _, rfl, .inl (SqL.of B.hgl), fun l nl => ?_⟩
    have s1 : Same H (upd H l (.lst (nV d.goals))) := same_new nl
    have klen := keys_few B.kn B.kk
    refine ⟨_, rfl, p, C, dx, _, _, rfl, s1 _ _ B.hp, T.cl, T.nScenes, dfs_scenes, _, rfl, sl, _, rfl, DPut.k (k := Sum.inl (i : Int)) (s1 _ _ B.hsl) (line_lt (by omega)), (by show 1 ≤ sizeLine; decide), fun r nr => ?_⟩
    generalize e1 : upd (upd H l (.lst (nV d.goals))) sl (.dK (putK kvs (Sum.inl (i : Int)) (.ref l))) = H1 at nr
    have n_sp : sl ≠ p := ne_of B.hsl B.hp (by intro z; cases z)
    have n_so : sl ≠ ol := ne_of B.hsl B.hol (by intro z; cases z)
    have n_sg : sl ≠ gl := ne_of B.hsl B.hgl (by intro z; cases z)
    have n_st : sl ≠ tl := ne_of B.hsl B.htl (by intro z; cases z)
    have n_sl : sl ≠ l := ne_of_none B.hsl nl
    have k1 : ∀ x u, H x = some u → x ≠ sl → H1 x = some u := fun x u e nx => by rw [← e1, upd_ne nx]; exact s1 x u e
    have l1 : H1 l = some (.lst (nV d.goals)) := by rw [← e1, upd_ne n_sl.symm, upd_same]
    have sl1 : H1 sl = some (.dK (putK kvs (Sum.inl (i : Int)) (.ref l))) := by rw [← e1, upd_same]
    have D1 : DeskAt C CO H1 p { d with scenes := d.scenes.set i d.goals } (fun b => R b ∨ b = l) := by
      refine ⟨dx, ol, gl, tl, sl, oas, putK kvs (Sum.inl (i : Int)) (.ref l), ?_⟩
      exact { hp := k1 _ _ B.hp n_sp.symm, hol := k1 _ _ B.hol n_so.symm, olen := B.olen, oat := fun i a o h1 h2 => by
                obtain ⟨dxo, e⟩ := B.oat i a o h1 h2
                exact ⟨dxo, k1 _ _ e (ne_of e B.hsl (by intro z; cases z))⟩,
              hgl := k1 _ _ B.hgl n_sg.symm, htl := k1 _ _ B.htl n_st.symm, hsl := sl1, kn := putK_nodup _ B.kn, kk := fun kv hkv => by
                rcases putK_mem hkv with e | ⟨q, hq, e⟩
                · exact ⟨i, by omega, e⟩
                · obtain ⟨j, hj, ej⟩ := B.kk q hq
                  exact ⟨j, hj, by rw [← e]; exact ej⟩,
              sc := fun j hj => by
                rw [valV_put]
                show SceneAt H1 _ ol gl tl ((d.scenes.set i d.goals).getD j []) _
                by_cases z : j = i
                · subst z
                  rw [if_pos rfl]
                  have : (d.scenes.set j d.goals).getD j [] = d.goals := by simp [ok.sc16, hj]
                  rw [this]
                  exact ⟨goals_ne ok, l, rfl, l1, .inr rfl, (ne_of_none B.hol nl).symm, (ne_of_none B.hgl nl).symm, (ne_of_none B.htl nl).symm⟩
                · rw [if_neg (fun q => z (by have := Sum.inl.inj q; omega))]
                  have : (d.scenes.set i d.goals).getD j [] = d.scenes.getD j [] := by
                    simp [List.getElem?_set_ne (fun q => z q.symm)]
                  rw [this]
                  have := B.sc j hj
                  cases ev : valV kvs (Sum.inl (j : Int)) with
                  | none => rw [ev] at this; exact this
                  | some v =>
                    rw [ev] at this
                    obtain ⟨h1, a, h2, h3, h4, h5, h6, h7⟩ := this
                    exact ⟨h1, a, h2, k1 _ _ h3 (ne_of h3 B.hsl (by intro z; cases z)), .inl h4, h5, h6, h7⟩,
              d1 := B.d1, d2 := B.d2, d3 := B.d3, rp := .inl B.rp, rol := .inl B.rol, rgl := .inl B.rgl, rtl := .inl B.rtl, rsl := .inl B.rsl, roas := fun a ha => .inl (B.roas a ha), all := fun b hb => by
                rcases hb with hb | rfl
                · by_cases e : b = sl
                  · exact ⟨_, by rw [e]; exact sl1⟩
                  · obtain ⟨u, hu⟩ := B.all b hb
                    exact ⟨u, k1 _ _ hu e⟩
                · exact ⟨_, l1⟩ }
    have nr0 : H r = none := by
      cases e : H r with
      | none => rfl
      | some u =>
        by_cases z : r = sl
        · rw [z, sl1] at nr; cases nr
        · rw [k1 r u e z] at nr; cases nr
    refine k _ _ r (D1.new nr) (fun b hb => ?_) (fun b u e nb => ?_) upd_same nr0 (D1.not nr)
    · rcases hb with hb | rfl
      · exact .inl hb
      · exact .inr nl
    · exact same_new nr b u (k1 b u e (fun z => nb (z ▸ B.rsl)))

/-! ### sd_set -/
theorem scSe : FnScope ["self", "channel", "bus", "gain", "fade", "time", "number"] ["self", "channel", "bus", "gain", "fade", "time"] (defScope sSet) := ⟨rfl, rfl, rfl, by decide +kernel, rfl, by decide +kernel, by decide +kernel⟩
theorem ok_set {f fI fA fG C CO : Addr} {fd fdI fdA fdG : FuncData} (F : Fun K "sd_set" "Desk.sd_set" sSet f fd) (T : TxD K mg C) (MO : Mk K CO fI) (mO : mg "Order" = some (.ref CO))
    (GI : FnOk P w K mg base CX0 1 fI fdI ["self", "number", "time", "channel", "bus", "gain", "fade"] (spOInit CO)) (bI : Binds K fdI ["self", "number", "time", "channel", "bus", "gain", "fade"] [])
    (GA : FnOk P w K mg base CX0 1 fA fdA ["self", "order"] (spAdd C CO)) (bA : Binds K fdA ["self", "order"] []) (mA : Meth K C "add_order" fA)
    (GG : FnOk P w K mg base CX0 4 fG fdG ["self", "number"] (spAgain C CO)) (bG : Binds K fdG ["self", "number"] []) (mG : Meth K C "sd_again" fG) :
    FnOk P w K mg base CX0 5 f fd ["self", "channel", "bus", "gain", "fade", "time"] (spSet C CO) := by
  obtain ⟨t1, hU⟩ := T.unit
  obtain ⟨t2, hF⟩ := T.fade
  obtain ⟨t3, hT⟩ := T.tend
  obtain ⟨t4, hM⟩ := T.orMost
  obtain ⟨t5, h22⟩ := T.told
  obtain ⟨t6, h13⟩ := T.early
  obtain ⟨t7, h28⟩ := T.room
  refine F.ok scSe (fun vs H Q E h => ?_) (fun cdv A outer s H vs Q E hr h => ?_)
  · obtain ⟨p, d, R, c, b, g, f, t, rfl, _⟩ := h
    rfl
  · obtain ⟨p, d, R, c, b, g, f, t, rfl, ok, D, k⟩ := h
    obtain ⟨dx, ol, gl, tl, sl, oas, kvs, B⟩ := D
    have D : DeskAt C CO H p d R := ⟨dx, ol, gl, tl, sl, oas, kvs, B⟩
    have hr1 : Room 1 _ := hr.mono (by decide)
    have hr2 : Room 2 _ := hr.mono (by decide)
    refine ⟨_, pss_cons (ps_if (pw_or (pt_cmpR op_ge (pv 1) (pe_fld (pv 0) rfl) (nomark _)) (pw_or (pt_cmpR op_ge (pv 2) (pe_fld (pv 0) rfl) (nomark _)) (pw_or1 (pt_cmpR op_gt (pv 3) (pe_gint hU) (nomark _))))).pt (pss_one (ps_ret (pe_lst (pa_cons (pe_gint h22) pa_nil)))) pss_nil)
      (pss_cons (ps_if (pw_or (pt_cmpR op_gt (pv 4) (pe_gint hF) (nomark _)) (pw_or1 (pt_cmpR op_ge (pv 5) (pe_gint hT) (nomark _)))).pt (pss_one (ps_ret (pe_lst (pa_cons (pe_gint h22) pa_nil)))) pss_nil)
      (pss_cons (ps_if (pt_cmpR op_lt (pv 5) (pe_fld (pv 0) rfl) (nomark _)) (pss_one (ps_ret (pe_lst (pa_cons (pe_gint h13) pa_nil)))) pss_nil)
      (pss_cons (ps_if (pt_cmpR op_ge (pe_callB call_len_seq rfl T.len PySem.boot_len (pa_cons (pe_fld (pv 0) rfl) pa_nil)) (pe_gint hM) (nomark _)) (pss_one (ps_ret (pe_lst (pa_cons (pe_gint h28) pa_nil)))) pss_nil)
      (pss_cons (ps_set (i := 6) scSe.nd rfl (Or.inl rfl) (pe_callB call_len_seq rfl T.len PySem.boot_len (pa_cons (pe_fld (pv 0) rfl) pa_nil)))
      (pss_cons (ps_expr (pe_meth (pv 0) T.cl mA GA hr1 bA .nil pass0 (pa_cons (pe_make MO GI hr2 rfl mO bI .nil pass0 (pa_cons (pv 6) (pa_cons (pv 5) (pa_cons (pv 1) (pa_cons (pv 2) (pa_cons (pv 3) (pa_cons (pv 4) pa_nil))))))) pa_nil)))
      (pss_one (ps_ret (pe_meth (pv 0) T.cl mG GG hr bG .nil pass0 (pa_cons (pv 6) pa_nil))))))))), ?_⟩
    have refuse : Bad d c b g f t → (1 ≤ sizeLine) ∧ ∀ r, H r = none → Q (.ref r) (upd H r (.lst [.int (-22)])) := fun h => by
      rw [dSet_22 h] at k
      exact ⟨by decide, fun r hr => k.refuse D hr⟩
    refine ⟨_, rfl, _, rfl, p, C, dx, _, _, rfl, B.hp, T.cl, T.nChannels, dfs_channels, _, _, rfl, rfl, _, rfl, ite2 (fun a => iteT (refuse (.inl (by have := of_decide_eq_true a; omega)))) (fun a1 => ?_)⟩
    have a1 : ¬ d.channels ≤ c := fun z => a1 (decide_eq_true (by omega))
    refine ⟨_, rfl, _, rfl, p, C, dx, _, _, rfl, B.hp, T.cl, T.nBuses, dfs_buses, _, _, rfl, rfl, _, rfl, ite2 (fun a => iteT (refuse (.inr (.inl (by have := of_decide_eq_true a; omega))))) (fun a2 => ?_)⟩
    have a2 : ¬ d.buses ≤ b := fun z => a2 (decide_eq_true (by omega))
    refine ⟨_, rfl, _, _, rfl, rfl, _, rfl, ite2 (fun a => refuse (.inr (.inr (.inl (by have := of_decide_eq_true a; omega))))) (fun a3 => ?_)⟩
    have a3 : ¬ 65536 < g := fun z => a3 (decide_eq_true (by omega))
    refine ⟨_, rfl, _, _, rfl, rfl, _, rfl, ite2 (fun a => iteT (refuse (.inr (.inr (.inr (.inl (by have := of_decide_eq_true a; omega))))))) (fun a4 => ?_)⟩
    have a4 : ¬ 480000 < f := fun z => a4 (decide_eq_true (by omega))
    refine ⟨_, rfl, _, _, rfl, rfl, _, rfl, ite2 (fun a => refuse (.inr (.inr (.inr (.inr (by have := of_decide_eq_true a; omega)))))) (fun a5 => ?_)⟩
    have a5 : ¬ 281474976710656 ≤ t := fun z => a5 (decide_eq_true (by omega))
    have nb : ¬ Bad d c b g f t := by rintro (h | h | h | h | h) <;> contradiction
    refine ⟨_, rfl, _, rfl, p, C, dx, _, _, rfl, B.hp, T.cl, T.nSealed, dfs_sealed, _, _, rfl, rfl, _, rfl, ite2 (fun a => ?_) (fun a6 => ?_)⟩
    · have a := of_decide_eq_true a
      rw [dSet_13 nb (by omega)] at k
      exact ⟨(by show 1 ≤ sizeLine; decide), fun r hr => k.refuse D hr⟩
    have a6 : ¬ t < d.sealed := fun z => a6 (decide_eq_true (by omega))
    refine ⟨_, rfl, p, C, dx, _, _, rfl, B.hp, T.cl, T.nOrders, dfs_orders, ol, _, rfl, .inl (SqL.of B.hol), _, _, rfl, rfl, _, rfl, ?_⟩
    rw [List.length_map, B.olen]
    refine ite2 (fun a => ?_) (fun a7 => ?_)
    · have a := of_decide_eq_true a
      rw [dSet_28 nb a6 (by omega)] at k
      exact ⟨(by show 1 ≤ sizeLine; decide), fun r hr => k.refuse D hr⟩
    have a7 : ¬ 4096 ≤ d.orders.length := fun z => a7 (decide_eq_true (by omega))
    rw [dSet_ok nb a6 a7] at k
    refine ⟨_, rfl, p, C, dx, _, _, rfl, B.hp, T.cl, T.nOrders, dfs_orders, ol, _, rfl, .inl (SqL.of B.hol), ?_⟩
    rw [List.length_map, B.olen]
    refine ⟨_, rfl, p, dx, _, rfl, B.hp, dfs_no (by decide +kernel) (by decide +kernel) (by decide +kernel) (by decide +kernel) (by decide +kernel) (by decide +kernel) (by decide +kernel) (by decide +kernel), _, rfl, _, rfl, _, rfl, _, rfl, _, rfl, _, rfl, fun x dxo nx ndx nex => ?_⟩
    refine ⟨x, dxo, ⟨d.orders.length, t, c, b, g, f⟩, rfl, upd_same, fun H1 oat k1 => ⟨rfl, ?_⟩⟩
    have s1 : Same H H1 := Same.made nx ndx k1
    obtain ⟨dx1, ol1, gl1, tl1, sl1, oas1, kvs1, B1⟩ := D.same s1
    refine ⟨p, x, d, R, ⟨d.orders.length, t, c, b, g, f⟩, dx1, ol1, gl1, tl1, sl1, oas1, kvs1, rfl, ok, B1, oat, rfl, (by show c < d.channels; omega), (by show b < d.buses; omega), by omega, fun H2 B2 k2 => ?_⟩
    have D2 : DeskAt C CO H2 p (d.gives c b g f t) (fun y => R y ∨ y = x) := ⟨dx1, ol1, gl1, tl1, sl1, _, kvs1, B2⟩
    have ok2 : DOk (d.gives c b g f t) := gives_ok ok (by omega) (by omega) (by omega)
    have kp2 : ∀ y u, H y = some u → ¬ R y → H2 y = some u := fun y u e ny => by
      rw [k2 y (fun z => ny (z ▸ B1.rp)) (fun z => ny (z ▸ B1.rol)) (fun z => ny (z ▸ B1.rgl)) (fun z => ny (z ▸ B1.rtl))]
      exact s1 y u e
    have back : ∀ y, H2 y = none → H y = none := fun y hy => by
      cases e : H y with
      | none => rfl
      | some u =>
        by_cases ry : R y
        · obtain ⟨o, ho⟩ := D2.alloc (.inl ry)
          rw [ho] at hy; cases hy
        · rw [kp2 y u e ry] at hy; cases hy
    refine ⟨_, rfl, p, dx1, _, rfl, B2.hp, dfs_no (by decide +kernel) (by decide +kernel) (by decide +kernel) (by decide +kernel) (by decide +kernel) (by decide +kernel) (by decide +kernel) (by decide +kernel), _, rfl, p, _, _, d.orders.length, rfl, ok2, D2, fun H3 R3 r D3 r3 k3 e3 nr nR => ?_⟩
    refine k H3 R3 r D3 (fun y hy => ?_) (fun y u e ny => ?_) ?_ (back r nr) nR
    · rcases r3 y hy with (h | rfl) | h
      · exact .inl h
      · exact .inr nx
      · exact .inr (back y h)
    · refine k3 y u (kp2 y u e ny) ?_
      rintro (h | rfl)
      · exact ny h
      · rw [nx] at e; cases e
    · have eo : (d.gives c b g f t).orders[d.orders.length]? = some ⟨d.orders.length, t, c, b, g, f⟩ := by
        show (d.orders ++ [_])[d.orders.length]? = _
        rw [List.getElem?_append_right (Nat.le_refl _), Nat.sub_self]
        rfl
      rw [dAgain_ok eo] at e3
      exact e3
end
end Sb

set_option Elab.async false
set_option maxRecDepth 100000
set_option maxHeartbeats 4000000
/-! sd_go. -/
namespace Sb
open PySem PySem.Spec PyProof.Rows L2
open Km345 (Desk Order)
/-- the same of fewer places -/
def placesTo (gs sc : List Nat) (i : Nat) : List Nat := (List.range i).filter fun p => sc.getD p 0 != gs.getD p 0
theorem placesTo_succ (gs sc : List Nat) (i : Nat) : placesTo gs sc (i + 1) = if sc.getD i 0 = gs.getD i 0 then placesTo gs sc i else placesTo gs sc i ++ [i] := by
  unfold placesTo
  rw [List.range_succ, List.filter_append]
  by_cases h : sc.getD i 0 = gs.getD i 0
  · rw [if_pos h, List.filter_cons_of_neg (by rw [h]; simp), List.filter_nil, List.append_nil]
  · rw [if_neg h, List.filter_cons_of_pos (by rw [bne_iff_ne]; exact h), List.filter_nil]
theorem placesTo_len (gs sc : List Nat) (i : Nat) : (placesTo gs sc i).length ≤ i := by
  have := List.length_filter_le (fun p => sc.getD p 0 != gs.getD p 0) (List.range i)
  rw [List.length_range] at this
  exact this
theorem placesTo_lt {gs sc : List Nat} {n p : Nat} (h : p ∈ placesTo gs sc n) : p < n := List.mem_range.mp (List.mem_filter.mp h).1
theorem getD_get {l : List Nat} {i : Nat} (h : i < l.length) : l[i]? = some (l.getD i 0) := by
  simp [h]
/-- what an order is for a place -/
def tri (B : Nat) (sc : List Nat) (p : Nat) : Nat × Nat × Nat := (p / B, p % B, sc.getD p 0)
section
variable {P : Program} {w : World} {K : PySem.W.Frag} {mg : Str → Option Value} {base : Heap}
theorem scGo : FnScope ["self", "scene", "fade", "time", "kept", "changed", "place", "channel", "bus"] ["self", "scene", "fade", "time"] (defScope sGo) := ⟨rfl, rfl, rfl, by decide +kernel, rfl, by decide +kernel, by decide +kernel⟩
theorem ok_go {f fI fA C CO : Addr} {fd fdI fdA : FuncData} (F : Fun K "sd_go" "Desk.sd_go" sGo f fd) (T : TxD K mg C) (TM : TxM K mg CO) (MO : Mk K CO fI) (mO : mg "Order" = some (.ref CO))
    (GI : FnOk P w K mg base CX0 1 fI fdI ["self", "number", "time", "channel", "bus", "gain", "fade"] (spOInit CO)) (bI : Binds K fdI ["self", "number", "time", "channel", "bus", "gain", "fade"] [])
    (GA : FnOk P w K mg base CX0 1 fA fdA ["self", "order"] (spAdd C CO)) (bA : Binds K fdA ["self", "order"] []) (mA : Meth K C "add_order" fA) :
    FnOk P w K mg base CX0 3 f fd ["self", "scene", "fade", "time"] (spGo C CO) := by
  obtain ⟨t1, hS⟩ := T.scenes
  obtain ⟨t2, hF⟩ := T.fade
  obtain ⟨t3, hT⟩ := T.tend
  obtain ⟨t4, hM⟩ := T.orMost
  obtain ⟨t5, h22⟩ := T.told
  obtain ⟨t6, h13⟩ := T.early
  obtain ⟨t7, h28⟩ := T.room
  obtain ⟨t8, h2⟩ := T.there
  refine F.ok scGo (fun vs H Q E h => ?_) (fun cdv A outer s H vs Q E hr h => ?_)
  · obtain ⟨p, d, R, i, f, t, rfl, _⟩ := h
    rfl
  · obtain ⟨p, d, R, i, f, t, rfl, ok, D, k⟩ := h
    obtain ⟨dx, ol, gl, tl, sl, oas, kvs, B⟩ := D
    have D : DeskAt C CO H p d R := ⟨dx, ol, gl, tl, sl, oas, kvs, B⟩
    have hr1 : Room 1 _ := hr.mono (by decide)
    refine ⟨_, pss_cons (ps_if (pw_or (pt_cmpR op_ge (pv 1) (pe_gint hS) (nomark _)) (pw_or (pt_cmpR op_gt (pv 2) (pe_gint hF) (nomark _)) (pw_or1 (pt_cmpR op_ge (pv 3) (pe_gint hT) (nomark _))))).pt (pss_one (ps_ret (pe_lst (pa_cons (pe_gint h22) pa_nil)))) pss_nil)
      (pss_cons (ps_if (pt_cmp (pc_dnotin (hu_of hr) (pv 1) (pe_fld (pv 0) rfl)) rfl) (pss_one (ps_ret (pe_lst (pa_cons (pe_gint h2) pa_nil)))) pss_nil)
      (pss_cons (ps_if (pw_or (pt_cmpR op_lt (pv 3) (pe_fld (pv 0) rfl) (nomark _)) (pw_or1 (pt_cmpR op_lt (pv 3) (pe_fld (pv 0) rfl) (nomark _)))).pt (pss_one (ps_ret (pe_lst (pa_cons (pe_gint h13) pa_nil)))) pss_nil)
      (pss_cons (ps_set (i := 4) scGo.nd rfl (Or.inr rfl) (pe_dget (hu_of hr) (pe_fld (pv 0) rfl) (pv 1) (fun _ _ => rfl)))
      (pss_cons (ps_setLc (i := 5) (own := [("place", 6)]) (tt := tTest (tOp rNe (tOp (rIxL K) (tVar 4) (tVar 6)) (tOp (rIxL K) (tFld K (tVar 0) "goals") (tVar 6)))) rfl scGo.nd rfl rfl (sw_true rfl rfl rfl rfl) (pi_range1 rfl TM.range (pa_cons (pe_callB call_len_seq rfl T.len PySem.boot_len (pa_cons (pv 4) pa_nil)) pa_nil))
        (blkOk_by (N := ["self", "scene", "fade", "time", "kept", "changed", "place", "channel", "bus"]) (sc := defScope sGo) (by decide +kernel))
        (fun _ _ _ _ _ => pg_name (i := 6) scGo.nd rfl (Or.inl rfl))
        (fun _ _ _ _ _ => pts_one (pt_cmpR op_ne (pe_ix ix_list (pv 4) (pv 6) (fun _ _ => rfl)) (pe_ix ix_list (pe_fld (pv 0) rfl) (pv 6) (fun _ _ => rfl)) (nomark _)))
        (fun _ _ _ _ _ => pv 6))
      (pss_cons (ps_if (pt_cmpR op_gt (pe_op op_add (pe_callB call_len_seq rfl T.len PySem.boot_len (pa_cons (pe_fld (pv 0) rfl) pa_nil)) (pe_callB call_len_seq rfl T.len PySem.boot_len (pa_cons (pv 5) pa_nil))) (pe_gint hM) (nomark _)) (pss_one (ps_ret (pe_lst (pa_cons (pe_gint h28) pa_nil)))) pss_nil)
      (pss_cons (ps_for PassesOwn.never rfl (pi_list (pv 5)) (pg_name (i := 6) scGo.nd rfl (Or.inl rfl))
        (pss_cons (ps_set (i := 7) scGo.nd rfl (Or.inl rfl) (pe_op op_fdiv (pv 6) (pe_fld (pv 0) rfl)))
        (pss_cons (ps_set (i := 8) scGo.nd rfl (Or.inl rfl) (pe_op op_mod (pv 6) (pe_fld (pv 0) rfl)))
        (pss_one (ps_expr (pe_meth (pv 0) T.cl mA GA hr1 bA .nil pass0 (pa_cons (pe_make MO GI hr rfl mO bI .nil pass0
          (pa_cons (pe_callB call_len_seq rfl T.len PySem.boot_len (pa_cons (pe_fld (pv 0) rfl) pa_nil)) (pa_cons (pv 3) (pa_cons (pv 7) (pa_cons (pv 8) (pa_cons (pe_ix ix_list (pv 4) (pv 6) (fun _ _ => rfl)) (pa_cons (pv 2) pa_nil))))))) pa_nil)))))))
      (pss_one (ps_ret (pe_lst (pa_cons (pe_callB call_len_seq rfl T.len PySem.boot_len (pa_cons (pv 5) pa_nil)) pa_nil)))))))))), ?_⟩
    have refuse : (16 ≤ i ∨ 480000 < f ∨ 281474976710656 ≤ t) → (1 ≤ sizeLine) ∧ ∀ r, H r = none → Q (.ref r) (upd H r (.lst [.int (-22)])) := fun h => by
      rw [dGo_22 h] at k
      exact ⟨by decide, fun r hr => k.refuse D hr⟩
    refine ⟨_, rfl, _, _, rfl, rfl, _, rfl, ite2 (fun a => iteT (refuse (.inl (by have := of_decide_eq_true a; omega)))) (fun a1 => ?_)⟩
    have a1 : ¬ 16 ≤ i := fun z => a1 (decide_eq_true (by omega))
    refine ⟨_, rfl, _, _, rfl, rfl, _, rfl, ite2 (fun a => iteT (refuse (.inr (.inl (by have := of_decide_eq_true a; omega))))) (fun a2 => ?_)⟩
    have a2 : ¬ 480000 < f := fun z => a2 (decide_eq_true (by omega))
    refine ⟨_, rfl, _, _, rfl, rfl, _, rfl, ite2 (fun a => refuse (.inr (.inr (by have := of_decide_eq_true a; omega)))) (fun a3 => ?_)⟩
    have a3 : ¬ 281474976710656 ≤ t := fun z => a3 (decide_eq_true (by omega))
    have nb : ¬ (16 ≤ i ∨ 480000 < f ∨ 281474976710656 ≤ t) := by omega
    -- scene not in self.scenes
    refine ⟨_, rfl, _, rfl, p, C, dx, _, _, rfl, B.hp, T.cl, T.nScenes, dfs_scenes, sl, _, rfl, DGet.k (k := Sum.inl (i : Int)) B.hsl, _, rfl, ?_⟩
    have hsc := B.sc i (by omega)
    cases ev : valV kvs (Sum.inl (i : Int)) with
    | none =>
      rw [ev] at hsc
      rw [dGo_2 nb hsc] at k
      exact iteT ⟨(by show 1 ≤ sizeLine; decide), fun r hr => k.refuse D hr⟩
    | some v =>
    rw [ev] at hsc
    obtain ⟨sne, a, rfl, ha, Ra, na_ol, na_gl, na_tl⟩ := hsc
    refine iteF ?_
    have slen := scene_len ok sne
    generalize hscene : d.scenes.getD i [] = sc at sne ha slen
    -- time
    have early : (t < d.sealed ∨ t < lastAll d.orders) → (1 ≤ sizeLine) ∧ ∀ r, H r = none → Q (.ref r) (upd H r (.lst [.int (-13)])) := fun h => by
      rw [dGo_13 nb (by rw [hscene]; exact sne) h] at k
      exact ⟨by decide, fun r hr => k.refuse D hr⟩
    refine ⟨_, rfl, _, rfl, p, C, dx, _, _, rfl, B.hp, T.cl, T.nSealed, dfs_sealed, _, _, rfl, rfl, _, rfl, ite2 (fun a => iteT (early (.inl (by have := of_decide_eq_true a; omega)))) (fun a4 => ?_)⟩
    have a4 : ¬ t < d.sealed := fun z => a4 (decide_eq_true (by omega))
    refine ⟨_, rfl, _, rfl, p, C, dx, _, _, rfl, B.hp, T.cl, T.nLatest, dfs_latest, _, _, rfl, rfl, _, rfl, ite2 (fun a => early (.inr (by have := of_decide_eq_true a; omega))) (fun a5 => ?_)⟩
    have a5 : ¬ t < lastAll d.orders := fun z => a5 (decide_eq_true (by omega))
    have nt : ¬ (t < d.sealed ∨ t < lastAll d.orders) := by omega
    -- kept = self.scenes[scene]
    refine ⟨_, rfl, p, C, dx, _, _, rfl, B.hp, T.cl, T.nScenes, dfs_scenes, _, rfl, sl, _, rfl, ev ▸ DGet.k (k := Sum.inl (i : Int)) B.hsl, ?_⟩
    -- changed = [..]
    have har := area ok
    refine ⟨_, rfl, a, _, rfl, .inl (SqL.of ha), (sc.length : Int), (by rw [nV_length]), by omega, by omega, fun L hL => ?_⟩
    have hgoals := goals_length d
    refine lc_range (n := sc.length) (fun j H' => Same H H' ∧ H' L = some (.lst (nV (placesTo d.goals sc j)))) ⟨same_new hL, upd_same⟩ ?_ ?_
    · rintro j H' hj ⟨s1, h1⟩
      refine ⟨rfl, _, rfl, _, rfl, a, _, _, _, rfl, rfl, SqL.of (s1 _ _ ha), at_of (j := j) (by omega) (nV_get (getD_get hj)), _, rfl, p, C, dx, _, _, rfl, s1 _ _ B.hp, T.cl, T.nGoals, dfs_goals, _, rfl, gl, _, _, _, rfl, rfl, SqL.of (s1 _ _ B.hgl), at_of (j := j) (by omega) (nV_get (getD_get (by omega))), rfl, _, rfl, ?_⟩
      refine iteN (fun hne => ?_) (fun heq => ?_)
      · have hne : ¬ sc.getD j 0 = d.goals.getD j 0 := fun z => hne (by rw [z])
        refine ⟨_, rfl, _, h1, ?_, ?_, ?_⟩
        · have := placesTo_len d.goals sc j
          rw [nV_length]
          exact line_lt (by omega)
        · exact fun b u e => by rw [upd_ne (ne_of_none e hL)]; exact s1 b u e
        · rw [upd_same, placesTo_succ, if_neg hne, nV_append]
          show some (HO.lst (nV (placesTo d.goals sc j) ++ [V.int (0 + (j : Int))])) = _
          rw [Int.zero_add]
          rfl
      · have heq : sc.getD j 0 = d.goals.getD j 0 := by
          have := V.int.inj heq
          omega
        refine ⟨s1, ?_⟩
        rw [placesTo_succ, if_pos heq]
        exact h1
    rintro H1 ⟨s1, L1⟩
    have ech : d.changes sc = (placesTo d.goals sc sc.length).map (tri d.buses sc) := changes_eq d (by rw [slen])
    generalize hps : placesTo d.goals sc sc.length = ps at L1 ech
    have hpl : ∀ q ∈ ps, q < sc.length := fun q hq => placesTo_lt (by rw [← hps] at hq; exact hq)
    have hpn : ps.length ≤ 256 := by
      have := placesTo_len d.goals sc sc.length
      rw [hps] at this
      omega
    have elen : (d.changes sc).length = ps.length := by rw [ech, List.length_map]
    -- len(self.orders) + len(changed) > ORDERS_MOST
    refine ⟨_, rfl, p, C, dx, _, _, rfl, s1 _ _ B.hp, T.cl, T.nOrders, dfs_orders, ol, _, rfl, .inl (SqL.of (s1 _ _ B.hol)), _, rfl, L, _, rfl, .inl (SqL.of L1), _, _, rfl, rfl, _, _, rfl, rfl, _, rfl, ?_⟩
    rw [List.length_map, B.olen, nV_length]
    refine ite2 (fun a => ?_) (fun a6 => ?_)
    · have a := of_decide_eq_true a
      rw [dGo_28 nb (by rw [hscene]; exact sne) nt (by rw [hscene, elen]; omega)] at k
      refine ⟨(by show 1 ≤ sizeLine; decide), fun r nr => ?_⟩
      exact k _ R r ((D.same s1).new nr) (fun b hb => .inl hb) (fun b u e _ => same_new nr b u (s1 b u e)) upd_same (s1.free nr) ((D.same s1).not nr)
    have a6 : ¬ 4096 < d.orders.length + ps.length := fun z => a6 (decide_eq_true (by omega))
    rw [dGo_ok nb (by rw [hscene]; exact sne) nt (by rw [hscene, elen]; omega), hscene, elen, ech] at k
    have B1 : DeskBody C CO H1 p d R dx ol gl tl sl oas kvs := by
      have e : ∀ b, R b → H1 b = H b := fun b hb => by
        obtain ⟨o, eo⟩ := B.all b hb
        rw [eo]
        exact s1 b o eo
      exact { B with
        hp := s1 _ _ B.hp
        hol := s1 _ _ B.hol
        oat := fun i a o h1 h2 => by
          obtain ⟨dxo, e⟩ := B.oat i a o h1 h2
          exact ⟨dxo, s1 _ _ e⟩
        hgl := s1 _ _ B.hgl
        htl := s1 _ _ B.htl
        hsl := s1 _ _ B.hsl
        sc := fun i hi => (B.sc i hi).frame fun b h1 _ _ _ => e b h1
        all := fun b hb => by rw [e b hb]; exact B.all b hb }
    have nLp : L ≠ p := (ne_of_none B.hp hL).symm
    have nLol : L ≠ ol := (ne_of_none B.hol hL).symm
    have nLgl : L ≠ gl := (ne_of_none B.hgl hL).symm
    have nLtl : L ≠ tl := (ne_of_none B.htl hL).symm
    have nap : a ≠ p := ne_of ha B.hp (by intro z; cases z)
    have hB1 := ok.bu
    -- for place in changed
    refine ⟨_, rfl, L, rfl, ⟨_, SqL.of L1⟩, for_list (K := K) (a := L) (xs := nV ps) (fun j σ H' => ∃ (v6 v7 v8 : Option V) (R' : Addr → Prop) (oas' : List Addr), σ = [some (.ref p), some (.int (i : Int)), some (.int (f : Int)), some (.int (t : Int)), some (.ref a), some (.ref L), v6, v7, v8] ∧
        DeskBody C CO H' p (goes d f t ((ps.take j).map (tri d.buses sc))) R' dx ol gl tl sl oas' kvs ∧ DOk (goes d f t ((ps.take j).map (tri d.buses sc))) ∧ (∀ b, R' b → R b ∨ H b = none) ∧ (∀ b, R b → R' b) ∧ ¬ R' L ∧ (∀ b u, H1 b = some u → b ≠ p → b ≠ ol → b ≠ gl → b ≠ tl → H' b = some u))
      ⟨_, _, _, R, oas, rfl, B1, ok, fun b hb => .inl hb, fun b hb => hb, D.not hL, fun b u e _ _ _ _ => e⟩ ?_ ?_ ?_⟩
    · rintro j σ H' _ ⟨_, _, _, R', oas', _, _, _, _, _, _, fr⟩
      exact SqL.of (fr L _ L1 nLp nLol nLgl nLtl)
    · rintro j y σ H' hj ⟨v6, v7, v8, R', oas', rfl, B2, ok2, r2, r2', nL2, fr⟩
      obtain ⟨q, hq, rfl⟩ : ∃ q, ps[j]? = some q ∧ y = V.int (q : Int) := by
        unfold nV at hj
        rw [List.getElem?_map] at hj
        cases e : ps[j]? with
        | none => rw [e] at hj; cases hj
        | some z => rw [e] at hj; exact ⟨z, rfl, (Option.some.inj hj).symm⟩
      have hqlt := hpl q (List.mem_of_getElem? hq)
      obtain ⟨g1, g2, g3, g4⟩ := goes_same (f := f) (t := t) ((ps.take j).map (tri d.buses sc)) d
      rw [List.length_map, List.length_take] at g3
      have hjl : j < ps.length := (List.getElem?_eq_some_iff.mp hq).1
      have etk : goes d f t ((ps.take (j + 1)).map (tri d.buses sc)) = (goes d f t ((ps.take j).map (tri d.buses sc))).gives (q / d.buses) (q % d.buses) (sc.getD q 0) f t := by
        rw [take_snoc hq, List.map_append]
        exact goes_snoc _ _
      rw [etk]
      generalize goes d f t ((ps.take j).map (tri d.buses sc)) = e at B2 ok2 g1 g2 g3 g4
      have hdm := Nat.div_add_mod q d.buses
      have hmlt : q % d.buses < d.buses := Nat.mod_lt _ (by omega)
      have hdlt : q / d.buses < d.channels := by
        rw [Nat.div_lt_iff_lt_mul (by omega)]
        omega
      have hp2 := B2.hp
      rw [g1, g2] at hp2
      refine ⟨_, rfl, _, rfl, p, C, dx, _, _, rfl, hp2, T.cl, T.nBuses, dfs_buses, _, _, rfl, rfl, ⟨by omega, by omega⟩, ?_⟩
      dsimp only
      rw [← Int.natCast_ediv]
      refine ⟨_, rfl, _, rfl, p, C, dx, _, _, rfl, hp2, T.cl, T.nBuses, dfs_buses, _, _, rfl, rfl, (by show (0 : Int) < (d.buses : Int); omega), ?_⟩
      dsimp only
      rw [← Int.natCast_emod]
      refine ⟨_, rfl, p, dx, _, rfl, hp2, dfs_no (by decide +kernel) (by decide +kernel) (by decide +kernel) (by decide +kernel) (by decide +kernel) (by decide +kernel) (by decide +kernel) (by decide +kernel), _, rfl, p, C, dx, _, _, rfl, hp2, T.cl, T.nOrders, dfs_orders, ol, _, rfl, .inl (SqL.of B2.hol), _, rfl, _, rfl, _, rfl, _, rfl, _, rfl, a, _, _, _, rfl, rfl,
        SqL.of (fr a _ (s1 _ _ ha) nap na_ol na_gl na_tl), atI_nat (nV_get (getD_get hqlt)), _, rfl, fun x dxo nx ndx nex => ?_⟩
      refine ⟨x, dxo, ⟨e.orders.length, t, q / d.buses, q % d.buses, sc.getD q 0, f⟩, ?_, upd_same, fun H3 oat k3 => ⟨rfl, ?_⟩⟩
      · rw [List.length_map, B2.olen]
        all_goals rfl
      have s3 : Same H' H3 := Same.made nx ndx k3
      have B3 : DeskBody C CO H3 p e R' dx ol gl tl sl oas' kvs := by
        have ee : ∀ b, R' b → H3 b = H' b := fun b hb => by
          obtain ⟨o, eo⟩ := B2.all b hb
          rw [eo]
          exact s3 b o eo
        exact { B2 with
          hp := s3 _ _ B2.hp
          hol := s3 _ _ B2.hol
          oat := fun i a o h1 h2 => by
            obtain ⟨dxo, e⟩ := B2.oat i a o h1 h2
            exact ⟨dxo, s3 _ _ e⟩
          hgl := s3 _ _ B2.hgl
          htl := s3 _ _ B2.htl
          hsl := s3 _ _ B2.hsl
          sc := fun i hi => (B2.sc i hi).frame fun b h1 _ _ _ => ee b h1
          all := fun b hb => by rw [ee b hb]; exact B2.all b hb }
      refine ⟨p, x, e, R', ⟨e.orders.length, t, q / d.buses, q % d.buses, sc.getD q 0, f⟩, dx, ol, gl, tl, sl, oas', kvs, rfl, ok2, B3, oat, rfl, (by show q / d.buses < e.channels; rw [g1]; exact hdlt), (by show q % d.buses < e.buses; rw [g2]; exact hmlt), by omega, fun H4 B4 k4 => ?_⟩
      have nxL : x ≠ L := fun z => by
        have := fr L _ L1 nLp nLol nLgl nLtl
        rw [← z, nx] at this
        cases this
      refine ⟨_, _, _, _, _, rfl, B4, gives_ok ok2 (by rw [g1]; exact hdlt) (by rw [g2]; exact hmlt) (by omega), ?_, ?_, ?_, ?_⟩
      · rintro b (hb | rfl)
        · exact r2 b hb
        · cases eb : H b with
          | none => exact .inr rfl
          | some u =>
            refine .inl ?_
            by_cases rb : R b
            · exact rb
            · have := fr b u (s1 b u eb) (fun z => rb (z ▸ B.rp)) (fun z => rb (z ▸ B.rol)) (fun z => rb (z ▸ B.rgl)) (fun z => rb (z ▸ B.rtl))
              rw [nx] at this
              cases this
      · exact fun b hb => .inl (r2' b hb)
      · rintro (hb | hb)
        · exact nL2 hb
        · exact nxL hb.symm
      · intro b u eb n1 n2 n3 n4
        rw [k4 b n1 n2 n3 n4]
        exact s3 b u (fr b u eb n1 n2 n3 n4)
    · rintro σ H' ⟨v6, v7, v8, R', oas', rfl, B2, ok2, r2, r2', nL2, fr⟩
      rw [nV_length, List.take_length] at B2
      have D2 : DeskAt C CO H' p (goes d f t (ps.map (tri d.buses sc))) R' := ⟨dx, ol, gl, tl, sl, oas', kvs, B2⟩
      refine ⟨_, rfl, L, _, rfl, .inl (SqL.of (fr L _ L1 nLp nLol nLgl nLtl)), (by show 1 ≤ sizeLine; decide), fun r nr => ?_⟩
      have kp : ∀ b u, H b = some u → ¬ R b → H' b = some u := fun b u e nb => fr b u (s1 b u e) (fun z => nb (z ▸ B.rp)) (fun z => nb (z ▸ B.rol)) (fun z => nb (z ▸ B.rgl)) (fun z => nb (z ▸ B.rtl))
      have nr0 : H r = none := by
        cases e : H r with
        | none => rfl
        | some u =>
          by_cases rb : R r
          · exact absurd (r2' r rb) (D2.not nr)
          · rw [kp r u e rb] at nr; cases nr
      refine k _ R' r (D2.new nr) r2 (fun b u e nb => same_new nr b u (kp b u e nb)) ?_ nr0 (D2.not nr)
      rw [upd_same, nV_length]
      rfl
end
end Sb

set_option Elab.async false
/-! Numbers of bytes; what a message says, over the specification alone. -/
namespace Sb
open Km345
theorem foldr_le (v : Nat) : ∀ l : List Nat, l.foldr (fun b v => b + 256 * v) v = l.foldr (fun b v => b + 256 * v) 0 + 256 ^ l.length * v
  | [] => by simp
  | b :: l => by
    rw [List.foldr_cons, List.foldr_cons, foldr_le v l, List.length_cons, Nat.pow_succ, Nat.mul_add, Nat.add_assoc]
    congr 2
    rw [← Nat.mul_assoc, Nat.mul_comm 256 (256 ^ l.length)]
theorem num_succ {l : List Nat} {k w x : Nat} (h : l[k + w]? = some x) : num l k (w + 1) = num l k w + 256 ^ w * x := by
  unfold num
  have e : (l.drop k).take (w + 1) = (l.drop k).take w ++ [x] := by
    rw [List.take_add_one, List.getElem?_drop, h]
    rfl
  have hw : ((l.drop k).take w).length = w := by
    have : k + w < l.length := (List.getElem?_eq_some_iff.mp h).1
    rw [List.length_take, List.length_drop]
    omega
  rw [e, List.foldr_append, foldr_le, hw]
  simp
theorem num_zero (l : List Nat) (k : Nat) : num l k 0 = 0 := by
  unfold num
  rw [List.take_zero]
  rfl
theorem num_one {l : List Nat} {k x : Nat} (h : l[k]? = some x) : num l k 1 = x := by
  rw [num_succ (w := 0) (x := x) h, num_zero]
  simp
/-- the terms of a number -/
def terms (l : List Nat) (k w : Nat) : List Int := (List.range w).map fun j => ((l.getD (k + j) 0 * 256 ^ j : Nat) : Int)
theorem terms_succ (l : List Nat) (k w : Nat) : terms l k (w + 1) = terms l k w ++ [((l.getD (k + w) 0 * 256 ^ w : Nat) : Int)] := by
  unfold terms
  rw [List.range_succ, List.map_append]
  rfl
theorem terms_sum {l : List Nat} {k : Nat} : ∀ {w : Nat}, k + w ≤ l.length → (terms l k w).sum = ((num l k w : Nat) : Int)
  | 0, _ => by
    rw [num_zero]
    rfl
  | w + 1, h => by
    have hg : l[k + w]? = some (l.getD (k + w) 0) := by
      rw [List.getD_eq_getElem?_getD, List.getElem?_eq_getElem (by omega)]
      rfl
    rw [terms_succ, List.sum_append, terms_sum (by omega), num_succ hg, Nat.mul_comm (256 ^ w)]
    simp
theorem obytes_kind (o : Order) : o.bytes[0]? = some 1 := rfl
theorem sbytes_kind (z : Seal) : z.bytes[0]? = some 2 := rfl
/-- the order that a message would tell -/
def oRead (l : List Nat) : Order := ⟨num l 4 4, num l 8 8, num l 1 1, num l 2 1, num l 16 4, num l 20 4⟩
def zRead (l : List Nat) : Seal := ⟨num l 4 4, num l 8 8⟩
theorem orderOf_kind {l : List Nat} {o : Order} (h : orderOf l = some o) : l[0]? = some 1 := by
  have h : (if l = (oRead l).bytes ∧ (oRead l).good = true then some (oRead l) else none) = some o := h
  split at h
  · rename_i hc
    rw [hc.1]
    exact obytes_kind _
  · cases h
theorem sealOf_kind {l : List Nat} {z : Seal} (h : sealOf l = some z) : l[0]? = some 2 := by
  have h : (if l = (zRead l).bytes ∧ (zRead l).good = true then some (zRead l) else none) = some z := h
  split at h
  · rename_i hc
    rw [hc.1]
    exact sbytes_kind _
  · cases h
theorem orderOf_some {l : List Nat} (h1 : (oRead l).bytes = l) (h2 : (oRead l).good = true) : orderOf l = some (oRead l) := if_pos ⟨h1.symm, h2⟩
theorem orderOf_none {l : List Nat} (h : ¬ ((oRead l).good = true ∧ (oRead l).bytes = l)) : orderOf l = none := if_neg fun z => h ⟨z.2, z.1.symm⟩
theorem sealOf_some {l : List Nat} (h1 : (zRead l).bytes = l) (h2 : (zRead l).good = true) : sealOf l = some (zRead l) := if_pos ⟨h1.symm, h2⟩
theorem sealOf_none {l : List Nat} (h : ¬ ((zRead l).good = true ∧ (zRead l).bytes = l)) : sealOf l = none := if_neg fun z => h ⟨z.2, z.1.symm⟩
theorem orderOf_not {l : List Nat} (h : l[0]? ≠ some 1) : orderOf l = none := by
  cases e : orderOf l with
  | none => rfl
  | some o => exact absurd (orderOf_kind e) h
theorem sealOf_not {l : List Nat} (h : l[0]? ≠ some 2) : sealOf l = none := by
  cases e : sealOf l with
  | none => rfl
  | some o => exact absurd (sealOf_kind e) h
theorem orderOf_good {l : List Nat} {o : Order} (h : orderOf l = some o) : o.good = true := by
  have h : (if l = (oRead l).bytes ∧ (oRead l).good = true then some (oRead l) else none) = some o := h
  split at h
  · rename_i hc
    rw [← Option.some.inj h]
    exact hc.2
  · cases h
theorem sealOf_good {l : List Nat} {z : Seal} (h : sealOf l = some z) : z.good = true := by
  have h : (if l = (zRead l).bytes ∧ (zRead l).good = true then some (zRead l) else none) = some z := h
  split at h
  · rename_i hc
    rw [← Option.some.inj h]
    exact hc.2
  · cases h
theorem good_iff (o : Order) : o.good = true ↔ o.channel < 32 ∧ o.bus < 8 ∧ o.number < 4096 ∧ o.time < 281474976710656 ∧ o.gain ≤ 65536 ∧ o.fade ≤ 480000 := by
  unfold Order.good okGain UNIT ORDERS TIME
  simp only [Bool.and_eq_true, decide_eq_true_eq]
theorem sgood_iff (z : Seal) : z.good = true ↔ z.many ≤ 4096 ∧ z.time ≤ 281474976710656 := by
  unfold Seal.good ORDERS TIME
  simp only [Bool.and_eq_true, decide_eq_true_eq]
end Sb

set_option Elab.async false
set_option maxRecDepth 100000
set_option maxHeartbeats 4000000
/-! Messages that are read. -/
namespace L2
open PySem PySem.Spec PyProof.Rows
/-! ### == of lists of ints -/
theorem dp_ints {K : PySem.W.Frag} {H : Hp} : ∀ ns : List Int, DpAll K H (ns.map V.int) (ns.map PyData.int)
  | [] => .nil
  | n :: ns => .cons (.int n) (dp_ints ns)
theorem eqv_ints : ∀ ns ms : List Int, PyData.eqvAll (ns.map PyData.int) (ms.map PyData.int) = decide (ns = ms)
  | [], [] => rfl
  | [], _ :: _ => rfl
  | _ :: _, [] => rfl
  | n :: ns, m :: ms => by
    show ((n == m) && PyData.eqvAll (ns.map PyData.int) (ms.map PyData.int)) = _
    rw [eqv_ints ns ms]
    by_cases h : n = m
    · subst h
      by_cases h2 : ns = ms
      · subst h2; simp
      · simp [h2]
    · simp [h]
def rEqI (K : PySem.W.Frag) : R2 := fun x y H Q => ∃ (a b : Addr) (ns ms : List Int), x = .ref a ∧ y = .ref b ∧ SqL K H a (ns.map V.int) ∧ SqL K H b (ms.map V.int) ∧ Q (.bl (decide (ns = ms))) H
theorem shaped_ints (ns : List Int) : SeqAt.shaped (.list (ns.map PyData.int)) = true := by
  have h1 : ∀ ns : List Int, PyData.canLayAll0 (ns.map PyData.int) = true := by
    intro ns
    induction ns with
    | nil => rfl
    | cons n ns ih => exact ih
  have h2 : ∀ ns : List Int, PyData.depthAll (ns.map PyData.int) ≤ 1 := by
    intro ns
    induction ns with
    | nil => decide
    | cons n ns ih => exact Nat.max_le.mpr ⟨by simp [PyData.depth], ih⟩
  unfold SeqAt.shaped
  rw [Bool.and_eq_true, decide_eq_true_eq]
  refine ⟨h1 ns, ?_⟩
  have := h2 ns
  show PyData.depthAll (ns.map PyData.int) + 1 ≤ 64
  omega
theorem op_eqI {X : Cx} (hu : X.A.units + 64 < cLine) : OpR X (compareOp .Eq) (rEqI X.K) := by
  intro pins s σ H x y v u Q I rx ry h
  obtain ⟨a, b, ns, ms, rfl, rfl, ha, hb, q⟩ := h
  refine op_eqD hu pins s σ H _ _ v u Q I rx ry ⟨.list (ns.map PyData.int), .list (ms.map PyData.int), .lst ha (dp_ints ns), .lst hb (dp_ints ms), shaped_ints ns, shaped_ints ms, ?_⟩
  show Q (.bl (PyData.eqvAll (ns.map PyData.int) (ms.map PyData.int))) H
  rw [eqv_ints]
  exact q
end L2
namespace Sb
open PySem PySem.Spec PyProof.Rows L2
open Km345 (Order Seal)
abbrev sNum : Stmt := top 22
abbrev sOTold : Stmt := top 27
abbrev sSTold : Stmt := top 28
abbrev sRead : Stmt := top 29
theorem nV_ints (l : List Nat) : nV l = (Km345Neutral.nums l).map V.int := by
  unfold nV Km345Neutral.nums
  rw [List.map_map]
  rfl
theorem nums_inj {l m : List Nat} : Km345Neutral.nums l = Km345Neutral.nums m ↔ l = m := by
  constructor
  · intro h
    have := congrArg Km345Neutral.nats h
    unfold Km345Neutral.nums at this
    rw [nats_map, nats_map] at this
    exact this
  · intro h; rw [h]
/-! ### promises -/
def spNum (K : PySem.W.Frag) : Sp := fun vs H Q _ => ∃ (a : Addr) (l : List Nat) (k w : Nat), vs = [.ref a, .int (k : Int), .int (w : Int)] ∧ SqL K H a (nV l) ∧ k + w ≤ l.length ∧ w ≤ 8 ∧ (∀ x ∈ l, x < 256) ∧
  ∀ H', Same H H' → Q (.int ((Km345.num l k w : Nat) : Int)) H'
def spOTold (CO : Addr) : Sp := fun vs H Q _ => ∃ (a : Addr) (o : Order), vs = [.ref a] ∧ OrdAt CO H a o ∧ Q (.bl o.good) H
def spSTold (CS : Addr) : Sp := fun vs H Q _ => ∃ (a : Addr) (z : Seal), vs = [.ref a] ∧ SealAt CS H a z ∧ Q (.bl z.good) H
def spRead (K : PySem.W.Frag) (CO CS : Addr) : Sp := fun vs H Q _ => ∃ (a : Addr) (l : List Nat), vs = [.ref a] ∧ SqL K H a (nV l) ∧ l.length = 28 ∧ (∀ x ∈ l, x < 256) ∧
  (∀ H' p o, Km345.orderOf l = some o → Same H H' → H p = none → OrdAt CO H' p o → Q (.ref p) H') ∧
  (∀ H' p z, Km345.orderOf l = none → Km345.sealOf l = some z → Same H H' → H p = none → SealAt CS H' p z → Q (.ref p) H') ∧
  (∀ H', Km345.orderOf l = none → Km345.sealOf l = none → Same H H' → Q .non H')
section
variable {P : Program} {w : World} {K : PySem.W.Frag} {mg : Str → Option Value} {base : Heap}
theorem sqL_same {H H' : Hp} {a : Addr} {xs : List V} (s : Same H H') (h : SqL K H a xs) : SqL K H' a xs := by
  rcases h with (h | ⟨o, h⟩) | h
  · exact .inl (.inl (s _ _ h))
  · exact .inl (.inr ⟨o, s _ _ h⟩)
  · exact .inr h
/-! ### number_at -/
theorem scN : FnScope ["octets", "start", "size", "place"] ["octets", "start", "size"] (defScope sNum) := ⟨rfl, rfl, rfl, by decide +kernel, rfl, by decide +kernel, by decide +kernel⟩
theorem ok_num {f CO : Addr} {fd : FuncData} (F : Fun K "number_at" "number_at" sNum f fd) (T : TxM K mg CO) (hS : mg "sum" = none) : FnOk P w K mg base CX0 1 f fd ["octets", "start", "size"] (spNum K) := by
  refine F.ok scN (fun vs H Q E h => ?_) (fun cdv A outer s H vs Q E hr h => ?_)
  · obtain ⟨a, l, k, n, rfl, _⟩ := h
    rfl
  · obtain ⟨a, l, k, n, rfl, hL, hlen, hn, hb, q⟩ := h
    refine ⟨_, pss_one (ps_ret (pe_callB (cr_sum rfl) rfl hS PyProof.Rows.boot_sum (pa_cons (pe_lc (own := [("place", 3)]) (te := tOp (rI CPow fun i j => .int (i * 2 ^ j.toNat)) (tOp (rIxL K) (tVar 0) (tOp (rI0 fun i j => .int (i + j)) (tVar 1) (tVar 3))) (tOp (rI CMul fun i j => .int (i * j)) (tC (.int 8)) (tVar 3))) rfl scN.nd (pi_range1 rfl T.range (pa_cons (pv 2) pa_nil)) (blkOk_by (N := ["octets", "start", "size", "place"]) (sc := defScope sNum) (by decide +kernel))
      (fun _ _ _ _ _ => pg_name (i := 3) scN.nd rfl (Or.inl rfl)) (fun _ _ _ _ _ => pts_nil)
      (fun _ _ _ _ _ => pe_op op_shl (pe_ix ix_list (pv 0) (pe_op op_add (pv 1) (pv 3)) (fun _ _ => rfl)) (pe_op op_mul pe_int (pv 3)))) pa_nil))), ?_⟩
    refine ⟨_, rfl, (n : Int), rfl, by omega, by omega, fun D hD => ?_⟩
    refine lc_range (n := n) (fun i H' => Same H H' ∧ H' D = some (.lst ((terms l k i).map V.int))) ⟨same_new hD, upd_same⟩ ?_ ?_
    · rintro i H' hi ⟨s1, h1⟩
      have hg : l[k + i]? = some (l.getD (k + i) 0) := getD_get (by omega)
      have hx : l.getD (k + i) 0 < 256 := hb _ (List.mem_of_getElem? hg)
      refine ⟨rfl, yes_go ?_⟩
      refine ⟨_, rfl, _, rfl, _, rfl, _, _, rfl, rfl, a, _, _, _, rfl, rfl, sqL_same s1 hL, at_of (j := k + i) (by omega) (nV_get hg), _, rfl, _, _, rfl, rfl, .inl ⟨by decide, by decide⟩, _, _, rfl, rfl, ⟨by omega, by omega, by omega⟩, _, h1, ?_, ?_, ?_⟩
      · unfold terms
        rw [List.length_map, List.length_map, List.length_range]
        exact line_lt (by omega)
      · exact fun b u e => by rw [upd_ne (ne_of_none e hD)]; exact s1 b u e
      · rw [upd_same, terms_succ, List.map_append]
        have e1 : (8 * (0 + (i : Int))).toNat = 8 * i := by omega
        have e2 : ((l.getD (k + i) 0 : Nat) : Int) * 2 ^ (8 * (0 + (i : Int))).toNat = ((l.getD (k + i) 0 * 256 ^ i : Nat) : Int) := by
          rw [e1, Int.natCast_mul, Int.natCast_pow, Int.pow_mul]
          rfl
        show some (HO.lst ((terms l k i).map V.int ++ [V.int (((l.getD (k + i) 0 : Nat) : Int) * 2 ^ (8 * (0 + (i : Int))).toNat)])) = _
        rw [e2]
        rfl
    · rintro H' ⟨s1, h1⟩
      refine ⟨D, terms l k n, rfl, SqL.of h1, ?_⟩
      rw [terms_sum hlen]
      exact q H' s1

/-! ### order_as_told, seal_as_told -/
structure TxB (mg : Str → Option Value) : Prop where
  chMost : ∃ t, mg "CHANNELS_MOST" = some (.int 32 t)
  buMost : ∃ t, mg "BUSES_MOST" = some (.int 8 t)
  orMost : ∃ t, mg "ORDERS_MOST" = some (.int 4096 t)
  unit : ∃ t, mg "UNIT" = some (.int 65536 t)
  fade : ∃ t, mg "FADE_MOST" = some (.int 480000 t)
  tend : ∃ t, mg "TIME_END" = some (.int 281474976710656 t)
theorem scOT : FnScope ["order"] ["order"] (defScope sOTold) := ⟨rfl, rfl, rfl, by decide +kernel, rfl, by decide +kernel, by decide +kernel⟩
theorem ok_otold {f CO : Addr} {fd : FuncData} (F : Fun K "order_as_told" "order_as_told" sOTold f fd) (T : TxM K mg CO) (B : TxB mg) : FnOk P w K mg base CX0 1 f fd ["order"] (spOTold CO) := by
  obtain ⟨t1, h1⟩ := B.chMost
  obtain ⟨t2, h2⟩ := B.buMost
  obtain ⟨t3, h3⟩ := B.orMost
  obtain ⟨t4, h4⟩ := B.unit
  obtain ⟨t5, h5⟩ := B.fade
  obtain ⟨t6, h6⟩ := B.tend
  refine F.ok scOT (fun vs H Q E h => ?_) (fun cdv A outer s H vs Q E hr h => ?_)
  · obtain ⟨a, o, rfl, _⟩ := h
    rfl
  · obtain ⟨a, o, rfl, ⟨dx, ha⟩, q⟩ := h
    refine ⟨_, pss_cons (ps_if (pw_or (pt_cmpR op_ge (pe_fld (pv 0) rfl) (pe_gint h1) (nomark _)) (pw_or (pt_cmpR op_ge (pe_fld (pv 0) rfl) (pe_gint h2) (nomark _)) (pw_or1 (pt_cmpR op_ge (pe_fld (pv 0) rfl) (pe_gint h3) (nomark _))))).pt (pss_one (ps_ret pe_bl)) pss_nil)
      (pss_one (ps_ret (pe_and (pe_cmpR op_lt (pe_fld (pv 0) rfl) (pe_gint h6) (nomark _)) (pe_and (pe_cmpR op_le (pe_fld (pv 0) rfl) (pe_gint h4) (nomark _)) (pe_one (pe_cmpR op_le (pe_fld (pv 0) rfl) (pe_gint h5) (nomark _))))))), ?_⟩
    have no : ¬ (o.channel < 32 ∧ o.bus < 8 ∧ o.number < 4096 ∧ o.time < 281474976710656 ∧ o.gain ≤ 65536 ∧ o.fade ≤ 480000) → Q (.bl false) H := fun z => by
      have : o.good = false := by
        cases e : o.good with
        | false => rfl
        | true => exact absurd ((good_iff o).mp e) z
      rw [this] at q
      exact q
    refine ⟨_, rfl, a, CO, dx, _, _, rfl, ha, T.clO, T.nChannel, ofs_channel o, _, _, rfl, rfl, _, rfl, ite2 (fun z => iteT (no (by have := of_decide_eq_true z; omega))) (fun a1 => ?_)⟩
    have a1 : ¬ 32 ≤ o.channel := fun z => a1 (decide_eq_true (by omega))
    refine ⟨_, rfl, a, CO, dx, _, _, rfl, ha, T.clO, T.nBus, ofs_bus o, _, _, rfl, rfl, _, rfl, ite2 (fun z => iteT (no (by have := of_decide_eq_true z; omega))) (fun a2 => ?_)⟩
    have a2 : ¬ 8 ≤ o.bus := fun z => a2 (decide_eq_true (by omega))
    refine ⟨_, rfl, a, CO, dx, _, _, rfl, ha, T.clO, T.nNumber, ofs_number o, _, _, rfl, rfl, _, rfl, ite2 (fun z => no (by have := of_decide_eq_true z; omega)) (fun a3 => ?_)⟩
    have a3 : ¬ 4096 ≤ o.number := fun z => a3 (decide_eq_true (by omega))
    refine ⟨_, rfl, a, CO, dx, _, _, rfl, ha, T.clO, T.nTime, ofs_time o, _, _, rfl, rfl, _, rfl, ?_⟩
    generalize e4 : decide ((o.time : Int) < 281474976710656) = d4
    cases d4 with
    | false => exact no (fun y => by have := of_decide_eq_false e4; omega)
    | true =>
    have a4 := of_decide_eq_true e4
    refine iteT ?_
    refine ⟨_, rfl, a, CO, dx, _, _, rfl, ha, T.clO, T.nGain, ofs_gain o, _, _, rfl, rfl, _, rfl, ite2 (fun a5 => ?_) (fun z => no (fun y => z (decide_eq_true (by omega))))⟩
    have a5 := of_decide_eq_true a5
    refine ⟨_, rfl, a, CO, dx, _, _, rfl, ha, T.clO, T.nFade, ofs_fade o, _, _, rfl, rfl, ?_⟩
    have e : o.good = decide ((o.fade : Int) ≤ 480000) := by
      by_cases hb : (o.fade : Int) ≤ 480000
      · rw [decide_eq_true hb]
        exact (good_iff o).mpr (by omega)
      · rw [decide_eq_false hb]
        cases e : o.good with
        | false => rfl
        | true => exact absurd ((good_iff o).mp e) (by omega)
    rw [e] at q
    exact q
theorem scST : FnScope ["seal"] ["seal"] (defScope sSTold) := ⟨rfl, rfl, rfl, by decide +kernel, rfl, by decide +kernel, by decide +kernel⟩
theorem ok_stold {f CS : Addr} {fd : FuncData} (F : Fun K "seal_as_told" "seal_as_told" sSTold f fd) (T : TxS K CS) (B : TxB mg) : FnOk P w K mg base CX0 1 f fd ["seal"] (spSTold CS) := by
  obtain ⟨t3, h3⟩ := B.orMost
  obtain ⟨t6, h6⟩ := B.tend
  refine F.ok scST (fun vs H Q E h => ?_) (fun cdv A outer s H vs Q E hr h => ?_)
  · obtain ⟨a, o, rfl, _⟩ := h
    rfl
  · obtain ⟨a, o, rfl, ⟨dx, ha⟩, q⟩ := h
    refine ⟨_, pss_one (ps_ret (pe_and (pe_cmpR op_le (pe_fld (pv 0) rfl) (pe_gint h3) (nomark _)) (pe_one (pe_cmpR op_le (pe_fld (pv 0) rfl) (pe_gint h6) (nomark _))))), ?_⟩
    refine ⟨_, rfl, a, CS, dx, _, _, rfl, ha, T.cl, T.nNumber, sfs_number o, _, _, rfl, rfl, _, rfl, ite2 (fun a1 => ?_) (fun z => ?_)⟩
    · have a1 := of_decide_eq_true a1
      refine ⟨_, rfl, a, CS, dx, _, _, rfl, ha, T.cl, T.nTime, sfs_time o, _, _, rfl, rfl, ?_⟩
      have e : o.good = decide ((o.time : Int) ≤ 281474976710656) := by
        by_cases hb : (o.time : Int) ≤ 281474976710656
        · rw [decide_eq_true hb]
          exact (sgood_iff o).mpr (by omega)
        · rw [decide_eq_false hb]
          cases e : o.good with
          | false => rfl
          | true => exact absurd ((sgood_iff o).mp e) (by omega)
      rw [e] at q
      exact q
    · have : o.good = false := by
        cases e : o.good with
        | false => rfl
        | true => exact absurd ((sgood_iff o).mp e) (fun y => z (decide_eq_true (by omega)))
      rw [this] at q
      exact q
/-! ### read_message -/
theorem hu64 {k : Nat} {A : Around} (h : Room k A) : A.units + 64 < cLine := h.units
theorem scR : FnScope ["octets", "number", "time", "order", "seal"] ["octets"] (defScope sRead) := ⟨rfl, rfl, rfl, by decide +kernel, rfl, by decide +kernel, by decide +kernel⟩
theorem ok_read {f fN fOI fSI fOT fST fOM fSM CO CS : Addr} {fd fdN fdOI fdSI fdOT fdST fdOM fdSM : FuncData} (F : Fun K "read_message" "read_message" sRead f fd) (T : TxM K mg CO)
    (GN : FnOk P w K mg base CX0 1 fN fdN ["octets", "start", "size"] (spNum K)) (kN : PySem.W.keepIn K (.ref fN) = true) (bN : Binds K fdN ["octets", "start", "size"] []) (mN : mg "number_at" = some (.ref fN))
    (MO : Mk K CO fOI) (mO : mg "Order" = some (.ref CO)) (GOI : FnOk P w K mg base CX0 1 fOI fdOI ["self", "number", "time", "channel", "bus", "gain", "fade"] (spOInit CO)) (bOI : Binds K fdOI ["self", "number", "time", "channel", "bus", "gain", "fade"] [])
    (MS : Mk K CS fSI) (mS : mg "Seal" = some (.ref CS)) (GSI : FnOk P w K mg base CX0 1 fSI fdSI ["self", "number", "time"] (spSInit CS)) (bSI : Binds K fdSI ["self", "number", "time"] [])
    (GOT : FnOk P w K mg base CX0 1 fOT fdOT ["order"] (spOTold CO)) (kOT : PySem.W.keepIn K (.ref fOT) = true) (bOT : Binds K fdOT ["order"] []) (mOT : mg "order_as_told" = some (.ref fOT))
    (GST : FnOk P w K mg base CX0 1 fST fdST ["seal"] (spSTold CS)) (kST : PySem.W.keepIn K (.ref fST) = true) (bST : Binds K fdST ["seal"] []) (mST : mg "seal_as_told" = some (.ref fST))
    (GOM : FnOk P w K mg base CX0 3 fOM fdOM ["order"] (spOMsg CO)) (kOM : PySem.W.keepIn K (.ref fOM) = true) (bOM : Binds K fdOM ["order"] []) (mOM : mg "order_message" = some (.ref fOM))
    (GSM : FnOk P w K mg base CX0 3 fSM fdSM ["seal"] (spSMsg CS)) (kSM : PySem.W.keepIn K (.ref fSM) = true) (bSM : Binds K fdSM ["seal"] []) (mSM : mg "seal_message" = some (.ref fSM)) :
    FnOk P w K mg base CX0 4 f fd ["octets"] (spRead K CO CS) := by
  obtain ⟨t1, hO⟩ := T.okind
  obtain ⟨t2, hS⟩ := T.skind
  refine F.ok scR (fun vs H Q E h => ?_) (fun cdv A outer s H vs Q E hr h => ?_)
  · obtain ⟨a, l, rfl, _⟩ := h
    rfl
  · obtain ⟨a, l, rfl, hL, h28, hb, q1, q2, q3⟩ := h
    have hr1 : Room 1 _ := hr.mono (by decide)
    have hr2 : Room 2 _ := hr.mono (by decide)
    have hr3 : Room 3 _ := hr.mono (by decide)
    refine ⟨_, pss_cons (ps_set (i := 1) scR.nd rfl (Or.inl rfl) (pe_call GN hr1 rfl mN kN bN .nil pass0 (pa_cons (pv 0) (pa_cons pe_int (pa_cons pe_int pa_nil)))))
      (pss_cons (ps_set (i := 2) scR.nd rfl (Or.inl rfl) (pe_call GN hr1 rfl mN kN bN .nil pass0 (pa_cons (pv 0) (pa_cons pe_int (pa_cons pe_int pa_nil)))))
      (pss_cons (ps_if (pt_cmpR op_eq (pe_ix ix_list (pv 0) pe_int (fun _ _ => rfl)) (pe_gint hO) (nomark _))
        (pss_cons (ps_set (i := 3) scR.nd rfl (Or.inl rfl) (pe_make MO GOI hr2 rfl mO bOI .nil pass0 (pa_cons (pv 1) (pa_cons (pv 2) (pa_cons (pe_ix ix_list (pv 0) pe_int (fun _ _ => rfl)) (pa_cons (pe_ix ix_list (pv 0) pe_int (fun _ _ => rfl))
            (pa_cons (pe_call GN hr1 rfl mN kN bN .nil pass0 (pa_cons (pv 0) (pa_cons pe_int (pa_cons pe_int pa_nil)))) (pa_cons (pe_call GN hr1 rfl mN kN bN .nil pass0 (pa_cons (pv 0) (pa_cons pe_int (pa_cons pe_int pa_nil)))) pa_nil))))))))
          (pss_one (ps_ret (pe_ifExp (PW.pt (pw_and (pt_val (pe_call GOT hr1 rfl mOT kOT bOT .nil pass0 (pa_cons (pv 3) pa_nil))) (pw_and1 (pt_cmpR (op_eqI hr.units) (pe_call GOM hr3 rfl mOM kOM bOM .nil pass0 (pa_cons (pv 3) pa_nil)) (pv 0) (nomark _))))) (pv 3) pe_non)))) pss_nil)
      (pss_cons (ps_if (pt_cmpR op_eq (pe_ix ix_list (pv 0) pe_int (fun _ _ => rfl)) (pe_gint hS) (nomark _))
        (pss_cons (ps_set (i := 4) scR.nd rfl (Or.inl rfl) (pe_make MS GSI hr2 rfl mS bSI .nil pass0 (pa_cons (pv 1) (pa_cons (pv 2) pa_nil))))
          (pss_one (ps_ret (pe_ifExp (PW.pt (pw_and (pt_val (pe_call GST hr1 rfl mST kST bST .nil pass0 (pa_cons (pv 4) pa_nil))) (pw_and1 (pt_cmpR (op_eqI hr.units) (pe_call GSM hr3 rfl mSM kSM bSM .nil pass0 (pa_cons (pv 4) pa_nil)) (pv 0) (nomark _))))) (pv 4) pe_non)))) pss_nil)
      (pss_one (ps_ret pe_non))))), ?_⟩
    have h0 : l[0]? = some (l.getD 0 0) := getD_get (by omega)
    have h1 : l[1]? = some (l.getD 1 0) := getD_get (by omega)
    have h2 : l[2]? = some (l.getD 2 0) := getD_get (by omega)
    refine ⟨_, rfl, a, l, 4, 4, rfl, hL, by omega, by decide, hb, fun H1 s1 => ?_⟩
    refine ⟨_, rfl, a, l, 8, 8, rfl, sqL_same s1 hL, by omega, by decide, hb, fun H2 s2' => ?_⟩
    have s2 := s1.trans s2'
    have l0 : atI (nV l) 0 = some (V.int ((l.getD 0 0 : Nat) : Int)) := at_of (j := 0) (by omega) (nV_get h0)
    refine ⟨_, rfl, a, _, _, _, rfl, rfl, sqL_same s2 hL, l0, rfl, _, rfl, ite2 (fun a1 => ?_) (fun a1 => ?_)⟩
    · have a1 : l.getD 0 0 = 1 := by
        have := V.int.inj (of_decide_eq_true a1)
        omega
      have hz : Km345.sealOf l = none := sealOf_not (by rw [h0, a1]; simp)
      refine ⟨_, rfl, _, rfl, _, rfl, a, _, _, _, rfl, rfl, sqL_same s2 hL, at_of (j := 1) (by omega) (nV_get h1), _, rfl, a, _, _, _, rfl, rfl, sqL_same s2 hL, at_of (j := 2) (by omega) (nV_get h2), _, rfl, a, l, 16, 4, rfl, sqL_same s2 hL, by omega, by decide, hb, fun H3 s3' => ?_⟩
      have s3 := s2.trans s3'
      refine ⟨_, rfl, a, l, 20, 4, rfl, sqL_same s3 hL, by omega, by decide, hb, fun H4 s4' => ?_⟩
      have s4 := s3.trans s4'
      refine fun x dx nx ndx nex => ⟨x, dx, oRead l, ?_, upd_same, fun H5 oat k5 => ⟨rfl, ?_⟩⟩
      · show [V.ref x, _, _, _, _, _, _] = [V.ref x, V.int ((Km345.num l 4 4 : Nat) : Int), V.int ((Km345.num l 8 8 : Nat) : Int), V.int ((Km345.num l 1 1 : Nat) : Int), V.int ((Km345.num l 2 1 : Nat) : Int), V.int ((Km345.num l 16 4 : Nat) : Int), V.int ((Km345.num l 20 4 : Nat) : Int)]
        rw [num_one h1, num_one h2]
      have s5' : Same H4 H5 := Same.made nx ndx k5
      have s5 := s4.trans s5'
      refine ⟨_, rfl, x, oRead l, rfl, oat, _, rfl, ?_⟩
      have nx0 : H x = none := s4.free nx
      cases eg : (oRead l).good with
      | false =>
        refine iteF (iteF (q3 H5 (orderOf_none (fun z => by rw [eg] at z; cases z.1)) hz s5))
      | true =>
        refine iteT ⟨_, rfl, x, oRead l, rfl, oat, fun H6 p s6' np hp => ⟨_, rfl, p, a, Km345Neutral.nums (oRead l).bytes, Km345Neutral.nums l, rfl, rfl, by rw [← nV_ints]; exact SqL.of hp, by rw [← nV_ints]; exact sqL_same (s5.trans s6') hL, _, rfl, ?_⟩⟩
        have s6 := s5.trans s6'
        by_cases eb : (oRead l).bytes = l
        · rw [decide_eq_true (nums_inj.mpr eb)]
          obtain ⟨dxo, ho⟩ := oat
          exact iteT ⟨_, rfl, q1 H6 x (oRead l) (orderOf_some eb eg) s6 nx0 ⟨dxo, s6' _ _ ho⟩⟩
        · rw [decide_eq_false (fun z => eb (nums_inj.mp z))]
          exact iteF (q3 H6 (orderOf_none (fun z => eb z.2)) hz s6)
    have a1 : l.getD 0 0 ≠ 1 := fun z => a1 (decide_eq_true (by rw [z]; rfl))
    have ho : Km345.orderOf l = none := orderOf_not (by rw [h0]; simpa using a1)
    refine ⟨_, rfl, a, _, _, _, rfl, rfl, sqL_same s2 hL, l0, rfl, _, rfl, ite2 (fun a2 => ?_) (fun a2 => ?_)⟩
    · refine ⟨_, rfl, _, rfl, fun x dx nx ndx nex => ⟨x, dx, zRead l, rfl, upd_same, fun H5 oat k5 => ⟨rfl, ?_⟩⟩⟩
      have s5' : Same H2 H5 := Same.made nx ndx k5
      have s5 := s2.trans s5'
      refine ⟨_, rfl, x, zRead l, rfl, oat, _, rfl, ?_⟩
      have nx0 : H x = none := s2.free nx
      cases eg : (zRead l).good with
      | false =>
        refine iteF (iteF (q3 H5 ho (sealOf_none (fun z => by rw [eg] at z; cases z.1)) s5))
      | true =>
        refine iteT ⟨_, rfl, x, zRead l, rfl, oat, fun H6 p s6' np hp => ⟨_, rfl, p, a, Km345Neutral.nums (zRead l).bytes, Km345Neutral.nums l, rfl, rfl, by rw [← nV_ints]; exact SqL.of hp, by rw [← nV_ints]; exact sqL_same (s5.trans s6') hL, _, rfl, ?_⟩⟩
        have s6 := s5.trans s6'
        by_cases eb : (zRead l).bytes = l
        · rw [decide_eq_true (nums_inj.mpr eb)]
          obtain ⟨dxo, hso⟩ := oat
          exact iteT ⟨_, rfl, q2 H6 x (zRead l) ho (sealOf_some eb eg) s6 nx0 ⟨dxo, s6' _ _ hso⟩⟩
        · rw [decide_eq_false (fun z => eb (nums_inj.mp z))]
          exact iteF (q3 H6 ho (sealOf_none (fun z => eb z.2)) s6)
    · have a2 : l.getD 0 0 ≠ 2 := fun z => a2 (decide_eq_true (by rw [z]; rfl))
      exact q3 H2 ho (sealOf_not (by rw [h0]; simpa using a2)) s2
end
end Sb

set_option Elab.async false
set_option maxRecDepth 100000
set_option maxHeartbeats 4000000
/-! sorted(xs, key=f), f an own def that gives tuples of ints; t <= u of such tuples. -/
namespace L2
open PySem PySem.Spec PyProof.Rows
section
variable {X : Cx} {k : Nat} {f : Addr} {fd : FuncData} {ps : List Str} {sp : Sp} {pins : List (Addr × Obj)} {σ : St} {H : Hp} {s : Shared}
/-- an own def runs within two built-ins -/
theorem run_in2 {Q : VK} {us : List Value} {vs : List V} (F : FnOk X.prog X.w X.K X.mg X.base CX0 k f fd ps sp) (hr : Room (k + 2) X.A) (hb : Binds X.K fd ps [])
    (I : Inv X pins σ H s) (r : Vals vs us) (h : sp vs H Q E0) : wpAny (model X.prog X.w) X.A.in1.in1 (call (.ref f) us) (EP X pins σ Q) (fun _ _ => False) s := by
  have hl : us.length = ps.length := by rw [← r.length]; exact F.len _ _ _ _ h
  have hb1 := hb s us I.kIn (by rw [List.append_nil]; exact hl)
  rw [List.append_nil] at hb1
  refine wpAny_call (codeAny_mono (F.run X.A.in1.in1 X.stack s H ⟨us, []⟩ us vs Q E0 hr.in1.in1 I.env0.in1.in1 hb1 r h) fun r s' hq => ?_)
  cases r with
  | error e => exact False.elim hq
  | ok fl =>
    cases fl with
    | ret u => exact I.after hq
    | next => exact False.elim hq
    | brk => exact False.elim hq
    | cont => exact False.elim hq
end
/-- what the key's def gives of an item: a new tuple of ints -/
def KeyFn (sp : Sp) (g : V → List Int) (H0 : Hp) (x : V) : Prop :=
  ∀ (H : Hp) (Q : VK), Same H0 H → (∀ H' p, Same H H' → H p = none → H' p = some (.tup ((g x).map V.int)) → Q (.ref p) H') → sp [x] H Q E0
def KeyAt (H : Hp) (g : V → List Int) (x kv : V) : Prop := ∃ p, kv = .ref p ∧ H p = some (.tup ((g x).map V.int))
theorem paired_snoc {α β : Type} {R : α → β → Prop} {a : α} {b : β} (h : R a b) : ∀ {l : List α} {m : List β}, Paired R l m → Paired R (l ++ [a]) (m ++ [b])
  | _, _, .nil => .cons h .nil
  | _, _, .cons x r => .cons x (paired_snoc h r)
theorem paired_mono {α β : Type} {R R' : α → β → Prop} (h : ∀ a b, R a b → R' a b) : ∀ {l : List α} {m : List β}, Paired R l m → Paired R' l m
  | _, _, .nil => .nil
  | _, _, .cons x r => .cons (h _ _ x) (paired_mono h r)
theorem paired_perm {α β : Type} {R : α → β → Prop} {l l' : List β} (p : l'.Perm l) : ∀ {xs : List α}, Paired R xs l → ∃ ys, ys.Perm xs ∧ Paired R ys l' := by
  have main : ∀ {l l' : List β}, l.Perm l' → ∀ {xs : List α}, Paired R xs l → ∃ ys, ys.Perm xs ∧ Paired R ys l' := by
    intro l l' p
    induction p with
    | nil => intro xs h; exact ⟨xs, .refl _, h⟩
    | cons x _ ih =>
      intro xs h
      cases h with
      | cons r t =>
        obtain ⟨ys, h1, h2⟩ := ih t
        exact ⟨_ :: ys, h1.cons _, .cons r h2⟩
    | swap x y l =>
      intro xs h
      cases h with
      | cons r t =>
        cases t with
        | cons r' t' => exact ⟨_, .swap _ _ _, .cons r' (.cons r t')⟩
    | trans _ _ ih1 ih2 =>
      intro xs h
      obtain ⟨ys, h1, h2⟩ := ih1 h
      obtain ⟨zs, h3, h4⟩ := ih2 h2
      exact ⟨zs, h3.trans h1, h4⟩
  intro xs h
  exact main p.symm h
section
variable {X : Cx} {k : Nat} {f : Addr} {fd : FuncData} {ps : List Str} {sp : Sp} {pins : List (Addr × Obj)} {σ : St}
theorem key_fold {g : V → List Int} {H0 : Hp} {kS a : Addr} {oa : Obj} {E : Value → Shared → Prop} {body : Value → PUnit → Sem (ForInStep PUnit)}
    (F : FnOk X.prog X.w X.K X.mg X.base CX0 k f fd ps sp) (hr : Room (k + 2) X.A) (hb : Binds X.K fd ps []) (h0 : H0 kS = none)
    (hbody : ∀ (x : Value) (s : Shared) (R : Shared → Prop), wpAny (model X.prog X.w) X.A.in1.in1 (call (.ref f) [x]) (fun v s' => wpAny (model X.prog X.w) X.A.in1.in1 (Builtin.List.listUpdate (.ref kS) (·.push v)) (fun _ s'' => R s'') E s') (fun _ _ => False) s →
      wpAny (model X.prog X.w) X.A.in1.in1 (body x ⟨⟩) (fun r s' => r = .yield ⟨⟩ ∧ R s') E s) :
    ∀ (r : List Value) (xr xd kvs : List V) (H : Hp) (s : Shared), Vals xr r → Inv X pins σ H s → Same H0 H → H kS = some (.lst kvs) → H a = some (.frz oa (.lst [])) → Paired (KeyAt H g) xd kvs → xd.length + xr.length ≤ sizeLine → (∀ x ∈ xr, KeyFn sp g H0 x) →
      wpAny (model X.prog X.w) X.A.in1.in1 (forIn r PUnit.unit body) (fun _ s' => ∃ H' kvs', Inv X pins σ H' s' ∧ Same H0 H' ∧ H' kS = some (.lst kvs') ∧ H' a = some (.frz oa (.lst [])) ∧ Paired (KeyAt H' g) (xd ++ xr) kvs') E s
  | [], xr, xd, kvs, H, s, hv, I, sm, hk, ha, hp, hz, hf => by
    cases hv
    rw [List.forIn_nil]
    exact wpAny_pure ⟨H, kvs, I, sm, hk, ha, by rw [List.append_nil]; exact hp⟩
  | x :: r, xr, xd, kvs, H, s, hv, I, sm, hk, ha, hp, hz, hf => by
    cases hv with
    | @cons y _ ys _ rx rt =>
    rw [List.forIn_cons]
    have hlen := Paired.length hp
    rw [List.length_cons] at hz
    refine wpAny_bind (wpAny_mono (hbody x s (fun s' => ∃ (H' : Hp) (p : Addr), Inv X pins σ H' s' ∧ Same H0 H' ∧ H' kS = some (.lst (kvs ++ [.ref p])) ∧ H' a = some (.frz oa (.lst [])) ∧ Paired (KeyAt H' g) (xd ++ [y]) (kvs ++ [.ref p])) ?_) ?_ fun _ _ z => z)
    · refine wpAny_mono (run_in2 (vs := [y]) (Q := fun v H' => ∃ p, v = .ref p ∧ Same H H' ∧ H p = none ∧ H' p = some (.tup ((g y).map V.int))) F hr hb I (.cons rx .nil) (hf y List.mem_cons_self H _ sm fun H' p h1 h2 h3 => ⟨p, rfl, h1, h2, h3⟩)) ?_ fun _ _ z => z
      rintro u s' ⟨v, H', I', rv, p, rfl, s1, hn, hp'⟩
      obtain ⟨z, its, n, rr, hl, e⟩ := I'.lstM (s1 _ _ hk)
      cases rv
      have hsz : its.length ≤ sizeLine := by rw [← hl]; exact z
      have hz2 : kvs.length + 1 ≤ sizeLine := by omega
      refine listUpdate_at e rfl ?_ (by rw [List.size_toArray]; exact hsz) (by rw [Array.size_push, List.size_toArray, ← hl]; exact Nat.le_succ_of_le hz2)
      have ea : its.toArray.push (Value.ref p) = (its ++ [Value.ref p]).toArray := by simp
      have nk : p ≠ kS := by
        rintro rfl
        rw [hk] at hn
        cases hn
      have na : a ≠ kS := ne_of ha hk (by intro z; cases z)
      refine ⟨_, p, I'.lset (t' := s'.toks) (its' := its ++ [Value.ref p]) (ys := kvs ++ [.ref p]) (s1 _ _ hk) e ea (rr.append (.cons (show RelV (.ref p) (Value.ref p) from rfl) .nil)) (by rw [List.length_append, List.length_singleton]; exact hz2), fun b o hb => ?_, upd_same, ?_, ?_⟩
      · rw [upd_ne (ne_of_none hb h0)]
        exact s1 _ _ (sm _ _ hb)
      · rw [upd_ne na]
        exact s1 _ _ ha
      · refine paired_snoc ⟨p, rfl, by rw [upd_ne nk]; exact hp'⟩ (paired_mono (fun x kv h => ?_) hp)
        obtain ⟨q, e1, e2⟩ := h
        exact ⟨q, e1, by rw [upd_ne (ne_of e2 hk (by intro z; cases z))]; exact s1 _ _ e2⟩
    · rintro q s' ⟨rfl, H', p, I', s1, k1, a1, p1⟩
      show wpAny _ _ (forIn r PUnit.unit body) _ E s'
      refine wpAny_mono (key_fold F hr hb h0 hbody r ys (xd ++ [y]) (kvs ++ [.ref p]) H' s' rt I' s1 k1 a1 p1 (by rw [List.length_append, List.length_singleton]; omega) fun x hx => hf x (List.mem_cons_of_mem _ hx)) ?_ fun _ _ z => z
      rintro _ s2 ⟨H2, kvs2, i1, i2, i3, i4, i5⟩
      refine ⟨H2, kvs2, i1, i2, i3, i4, ?_⟩
      rw [List.append_assoc] at i5
      exact i5

/-! ### the sorting itself -/
def sh0 : Nat → Bool := fun _ => false
theorem tupItems_ints : ∀ {ns : List Int} {its : List Value} (i : Nat), Vals (ns.map V.int) its → tupItems sh0 i its = some (ns.map Sum.inl)
  | [], _, _, .nil => rfl
  | n :: ns, _, i, .cons r t => by
    obtain ⟨tk, rfl⟩ := r
    have ih := tupItems_ints (i + 1) t
    show (if sh0 i = true then none else (tupItems sh0 (i + 1) _).map (Sum.inl n :: ·)) = _
    rw [if_neg (by intro z; cases z), ih]
    rfl
theorem tupKey_of {h : Heap} {a : Addr} {its : List Value} {ns : List Int} (ht : IsTup h a its.toArray) (hv : Vals (ns.map V.int) its) : G.tupKeyC h sh0 (.ref a) = some (ns.map Sum.inl) := by
  obtain ⟨o, ho, hc, n, hd⟩ := ht
  unfold G.tupKeyC
  have e1 : G.isTupObj h (.ref a) = true := by simp [G.isTupObj, ho, hc]
  rw [if_pos e1]
  simp only [tupKey, ho, hd]
  exact tupItems_ints 0 hv
/-- an item and its pair of key and value -/
def PrAt (h : Heap) (g : V → List Int) (x : V) (q : Keyed) : Prop := RelV x q.2 ∧ G.tupKeyC h sh0 q.1 = some ((g x).map Sum.inl)
theorem tups_of {H : Hp} {s : Shared} (I : Inv X pins σ H s) {g : V → List Int} : ∀ {xs kvs : List V} {vs keys : List Value}, Paired (KeyAt H g) xs kvs → Vals xs vs → Vals kvs keys → (∀ x ∈ xs, g x ≠ []) →
    Paired (PrAt s.heap g) xs (keys.zip vs) ∧ ∃ fs, TupsOf s.heap sh0 keys fs
  | _, _, _, _, .nil, .nil, .nil, _ => ⟨.nil, [], .nil⟩
  | x :: xs, _, _, _, .cons hk hp, .cons rv hv, .cons rk hkv, hg => by
    obtain ⟨ih, fs, hf⟩ := tups_of I hp hv hkv fun y hy => hg y (List.mem_cons_of_mem _ hy)
    obtain ⟨p, rfl, hp'⟩ := hk
    cases rk
    obtain ⟨its, r, ht, _⟩ := I.tuple (a := p) (.inl (.inl hp'))
    refine ⟨.cons ⟨rv, tupKey_of ht r⟩ ih, ?_⟩
    obtain ⟨o, ho, hc, n, hd⟩ := ht
    cases e : g x with
    | nil => exact absurd e (hg x List.mem_cons_self)
    | cons z zs =>
      rw [e] at r
      cases r with
      | @cons _ u _ us r1 r2 =>
        obtain ⟨tk, rfl⟩ := r1
        exact ⟨_ :: fs, .cons ⟨p, o, _, n, rfl, ho, hc, hd, rfl, fun _ => ⟨z, tk, rfl⟩, fun q => by cases q⟩ hf⟩
def LexLe (a b : List Int) : Prop := lexLt itemOrd (b.map Sum.inl) (a.map Sum.inl) = false
theorem srt_vals {h : Heap} {g : V → List Int} : ∀ {ys : List V} {l : List Keyed}, Paired (PrAt h g) ys l → Vals ys (l.map (·.2))
  | _, _, .nil => .nil
  | _, _, .cons r t => .cons r.1 (srt_vals t)
theorem srt_pairs {h : Heap} {g : V → List Int} : ∀ {ys : List V} {l : List Keyed}, Paired (PrAt h g) ys l → l.Pairwise (KeyLe (G.tupKindC h sh0)) → ys.Pairwise fun x y => LexLe (g x) (g y)
  | _, _, .nil, _ => .nil
  | x :: ys, q :: l, .cons r t, hp => by
    obtain ⟨h1, h2⟩ := List.pairwise_cons.mp hp
    refine List.pairwise_cons.mpr ⟨fun y hy => ?_, srt_pairs t h2⟩
    have : ∀ {ys : List V} {l : List Keyed}, Paired (PrAt h g) ys l → ∀ y ∈ ys, ∃ q ∈ l, PrAt h g y q := by
      intro ys l t
      induction t with
      | nil => intro y hy; cases hy
      | cons r t ih =>
        intro y hy
        rcases List.mem_cons.mp hy with rfl | hy
        · exact ⟨_, List.mem_cons_self, r⟩
        · obtain ⟨q, h1, h2⟩ := ih y hy
          exact ⟨q, List.mem_cons_of_mem _ h1, h2⟩
    obtain ⟨q', hq', ry⟩ := this t y hy
    obtain ⟨a, b, ea, eb, hab⟩ := h1 q' hq'
    have ea' : some a = some ((g x).map Sum.inl) := ea.symm.trans r.2
    have eb' : some b = some ((g y).map Sum.inl) := eb.symm.trans ry.2
    cases ea'
    cases eb'
    exact hab
theorem sort_end {A : Around} {E : Value → Shared → Prop} {g : V → List Int} {H0 H : Hp} {s : Shared} {kS a : Addr} {e1 n : Nat} {xs kvs : List V} {vs keys : List Value} {P : PySem.Fin → Shared → Prop} (I : Inv X pins σ H s) (sm : Same H0 H) (h0 : H0 kS = none) (ha0 : H0 a = none)
    (hna : ∀ o' u', X.H_0 a ≠ some (.frz o' u')) (hk : H kS = some (.lst kvs)) (ha : H a = some (.frz (seqObj "list" #[] e1) (.lst []))) (hp : Paired (KeyAt H g) xs kvs) (hv : Vals xs vs) (hkv : Vals kvs keys)
    (hko : s.heap.get? kS = some (seqObj "list" keys.toArray n)) (hz : xs.length ≤ sizeLine) (hg : ∀ x ∈ xs, g x ≠ [])
    (h : ∀ H' ys s', Inv X pins σ H' s' → Same H0 H' → H' a = some (.lst ys) → ys.Perm xs → ys.Pairwise (fun x y => LexLe (g x) (g y)) → P (.done (.ret .none)) s') :
    wpAny (model X.prog X.w) A (ksk_end a false vs.toArray e1 (.ref kS) keys.toArray) P E s := by
  have l1 := Paired.length hp
  have l2 : xs.length = vs.length := hv.length
  have l3 : kvs.length = keys.length := hkv.length
  have nak : a ≠ kS := ne_of ha hk (by intro z; cases z)
  obtain ⟨hpr, fs, hfs⟩ := tups_of I hp hv hkv hg
  have hzip : (keys.toArray.zip vs.toArray).toList = keys.zip vs := by simp
  have hKs : KeysOf (G.tupKindC s.heap sh0) (keys.toArray.zip vs.toArray) := by
    intro p hp'
    rw [hzip] at hp'
    have : ∀ {ys : List V} {l : List Keyed}, Paired (PrAt s.heap g) ys l → ∀ p ∈ l, ∃ a, (G.tupKindC s.heap sh0).keyOf p.1 = some a := by
      intro ys l t
      induction t with
      | nil => intro y hy; cases hy
      | cons r t ih =>
        intro y hy
        rcases List.mem_cons.mp hy with rfl | hy
        · exact ⟨_, r.2⟩
        · exact ih y hy
    exact this hpr p hp'
  have hsz : (keys.toArray.zip vs.toArray).size = vs.length := by rw [Array.size_zip, List.size_toArray, List.size_toArray]; omega
  have tail : ∀ st' : SortSt, (arrOf st').Perm (keys.toArray.zip vs.toArray) → SortedToK (G.tupKindC s.heap sh0) (arrOf st') (keys.toArray.zip vs.toArray).size → failedOf st' = none → wpAny (model X.prog X.w) A (ksk_tail a false e1 (.ref kS) st') P E s := by
    intro st' hperm hsort hfail
    have hl : (arrOf st').toList.Perm (keys.zip vs) := by rw [← hzip]; exact Array.perm_iff_toList_perm.mp hperm
    obtain ⟨ys, hy1, hy2⟩ := paired_perm hl hpr
    have hord : (arrOf st').toList.Pairwise (KeyLe (G.tupKindC s.heap sh0)) := keyLe_of_sorted (hKs.perm hperm) (by rw [hperm.size_eq]; exact hsort)
    have hy3 := srt_pairs hy2 hord
    have hy4 := srt_vals hy2
    have hyl := hy1.length_eq
    unfold ksk_tail
    try dsimp only
    refine wpAny_bind (listUpdate_at hko rfl ?_ (by rw [List.size_toArray]; omega) (Nat.zero_le _))
    have I1 := I.lset (t' := s.toks) (its' := []) (ys := []) (f := fun _ => #[]) hk hko rfl .nil (Nat.zero_le _)
    have ha1 : upd H kS (.lst []) a = some (.frz (seqObj "list" #[] e1) (.lst [])) := by rw [upd_ne nak]; exact ha
    have hao := (I1.hok a _ ha1).1
    refine wpAny_bind (wpAny_letGo ?_)
    refine wpAny_bind (seqEpoch_at hao rfl ?_)
    have I2 := I1.unlock ha1 hna
    have hout : ((arrOf st').map (·.2)) = ((arrOf st').toList.map (·.2)).toArray := by
      apply Array.toList_inj.mp
      rw [Array.toList_map]
    refine wpAny_bind (listUpdate_at hao rfl ?_ (Nat.zero_le _) ?_)
    · rw [hfail]
      simp only [bne_self_eq_false, Bool.false_eq_true, if_false]
      refine wpAny_pure (h _ ys _ (I2.lset (t' := s.toks) (l := a) (xs := []) (its := []) (its' := (arrOf st').toList.map (·.2)) (ys := ys) (f := fun _ => (arrOf st').map (·.2)) upd_same hao hout hy4 (by omega)) (fun b o hb => ?_) upd_same hy1 hy3)
      rw [upd_ne (ne_of_none hb ha0), upd_ne (ne_of_none hb ha0), upd_ne (ne_of_none hb h0)]
      exact sm _ _ hb
    · simp only [Bool.false_eq_true, if_false, Array.size_map]
      rw [hperm.size_eq, hsz]
      omega
  unfold ksk_end
  try dsimp only
  simp only [Bool.false_eq_true, if_false]
  by_cases h2 : vs.toArray.size < 2
  · rw [if_pos h2, if_pos h2]
    refine wpAny_bind (wpAny_pure ?_)
    rw [StateT.run_pure]
    refine wpAny_bind (wpAny_pure ?_)
    try dsimp only
    refine tail _ (Array.Perm.refl _) ?_ rfl
    intro i j hij hj
    have : i = j := by rw [hsz] at hj; rw [List.size_toArray] at h2; omega
    subst this
    exact KeyOrd.kle_refl _
  · rw [if_neg h2, if_neg h2]
    rw [List.size_toArray] at h2
    refine wpAny_bind (tup_kind (s := s) (by rw [G.TupsOf.length hfs]; omega) hfs ?_)
    refine wpAny_bind (wpAny_mono (G.wpS_sortRunsSt (κ := G.tupKindC s.heap sh0) (kd := tuples' true) (a₀ := keys.toArray.zip vs.toArray) (st := SortSt.mk' (tuples' true) (keys.toArray.zip vs.toArray) #[] 7 none)
      (Q := fun _ st' => (arrOf st').Perm (keys.toArray.zip vs.toArray) ∧ failedOf st' = none ∧ SortedToK (G.tupKindC s.heap sh0) (arrOf st') (keys.toArray.zip vs.toArray).size)
      (G.tupC_ltAt true (G.KeepsTups.refl _)) hKs ⟨Array.Perm.refl _, rfl, rfl⟩ rfl (Stable.refl _) (by rw [hsz]; omega) fun st' a1 a2 a3 _ => ⟨a1, a2, a3⟩) ?_ fun _ _ e => e)
    rintro ⟨⟨⟩, st'⟩ s' ⟨rfl, hp', hf, hs⟩
    try dsimp only
    exact tail st' hp' hs hf

/-! ### sorted(e, key=f) -/
def tSortK (K : PySem.W.Frag) (sp : Sp) (te : TE) : TE := fun σ H Q => te σ H fun x H1 => ∃ (a : Addr) (xs : List V) (g : V → List Int), x = .ref a ∧ SqL K H1 a xs ∧ (∀ y ∈ xs, KeyFn sp g H1 y ∧ g y ≠ []) ∧
  ∀ (H' : Hp) (ys : List V) (p : Addr), Same H1 H' → ys.Perm xs → ys.Pairwise (fun x y => LexLe (g x) (g y)) → H1 p = none → H' p = some (.lst ys) → Q (.ref p) H'
theorem sort_call {Q : VK} {H : Hp} {s : Shared} {a : Addr} {xs : List V} {g : V → List Int} (F : FnOk X.prog X.w X.K X.mg X.base CX0 k f fd ps sp) (hr : Room (k + 2) X.A) (hb : Binds X.K fd ps []) (I : Inv X pins σ H s) (hs : SqL X.K H a xs) (hg : ∀ y ∈ xs, KeyFn sp g H y ∧ g y ≠ [])
    (q : ∀ (H' : Hp) (ys : List V) (p : Addr), Same H H' → ys.Perm xs → ys.Pairwise (fun x y => LexLe (g x) (g y)) → H p = none → H' p = some (.lst ys) → Q (.ref p) H') :
    wpAny (model X.prog X.w) X.A (call (.builtin "sorted") [.ref a] [(Str.ofString "key", .ref f)]) (EP X pins σ Q) X.xe s := by
  obtain ⟨vs, rv, hl, hz⟩ := I.list hs
  have hl := hl.isList
  have hvl : xs.length = vs.length := rv.length
  refine call_function_entry_kw kind_sorted plain_sorted entry_sorted (ksk_s1 _ _) ?_
  unfold Builtin.«sorted»
  refine wpAny_bind (m := checkCount "sorted" 1 1 _) (wpAny_pure ?_)
  refine wpAny_bind (collect_list hl ?_ (by omega))
  refine wpAny_bind (wpAny_newList ?_ (by omega))
  have hsz : ((s.heap.push (seqObj "list" #[] 0)).update s.heap.objs.size (Obj.mapSeq (· ++ vs.toArray))).objs.size = s.heap.objs.size + 1 := by
    rw [Heap.size_update, size_push']
  have hoL : (((s.heap.push (seqObj "list" #[] 0)).update s.heap.objs.size (Obj.mapSeq (· ++ vs.toArray))).push (seqObj "list" vs.toArray 0)).get? (s.heap.objs.size + 1) = some (seqObj "list" vs.toArray 0) := by
    rw [← hsz]; exact Heap.get?_push_size _ rfl
  have keep : ∀ b o, s.heap.get? b = some o → (((s.heap.push (seqObj "list" #[] 0)).update s.heap.objs.size (Obj.mapSeq (· ++ vs.toArray))).push (seqObj "list" vs.toArray 0)).get? b = some o := fun b o q => by
    have hlt : b < s.heap.objs.size := Heap.lt_size q
    rw [Heap.get?_push_ne _ _ _ (by rw [hsz]; exact Nat.ne_of_lt (Nat.lt_succ_of_lt hlt)), Heap.get?_update_ne _ _ _ _ (Nat.ne_of_lt hlt), Heap.get?_push_ne _ _ _ (Nat.ne_of_lt hlt)]
    exact q
  have I1 : Inv X pins σ (upd H (s.heap.objs.size + 1) (.lst xs)) { s with heap := ((s.heap.push (seqObj "list" #[] 0)).update s.heap.objs.size (Obj.mapSeq (· ++ vs.toArray))).push (seqObj "list" vs.toArray 0) } :=
    I.laid (t' := s.toks) keep (Nat.le_succ _) ⟨hz, vs, 0, rv, hoL⟩
  have hD0 : H (s.heap.objs.size + 1) = none := I.hok.fresh (Nat.le_succ _)
  show wpAny _ _ _ _ _ { s with heap := ((s.heap.push (seqObj "list" #[] 0)).update s.heap.objs.size (Obj.mapSeq (· ++ vs.toArray))).push (seqObj "list" vs.toArray 0) }
  rw [hsz]
  have hoL2 : ({ s with heap := ((s.heap.push (seqObj "list" #[] 0)).update s.heap.objs.size (Obj.mapSeq (· ++ vs.toArray))).push (seqObj "list" vs.toArray 0) } : Shared).heap.get? (s.heap.objs.size + 1) = some (seqObj "list" vs.toArray 0) := hoL
  clear hoL hsz keep
  generalize s.heap.objs.size + 1 = D at hoL2 hD0 I1
  generalize ({ s with heap := ((s.heap.push (seqObj "list" #[] 0)).update s.heap.objs.size (Obj.mapSeq (· ++ vs.toArray))).push (seqObj "list" vs.toArray 0) } : Shared) = s1 at I1 hoL2
  refine wpAny_bind (wpAny_holding (wpAny_call_entry_kw slot_list_sort ⟨_, hoL2, rfl⟩ entry_list_sort ?body (ksk_l1 _ _)))
  case body =>
  show wpAny (model X.prog X.w) X.A.in1.in1 (Builtin.«list.sort» ⟨[.ref D], [(Str.ofString "key", .ref f)]⟩) _ _ _
  rw [ksk_t1 f D]
  unfold ksk_tree
  refine wpAny_bind (listItems_at hoL2 rfl ?_)
  refine wpAny_bind (listUpdate_at hoL2 rfl ?_ (by rw [List.size_toArray]; omega) (Nat.zero_le _))
  have I2 := I1.lset (t' := s1.toks) (its' := []) (ys := []) (f := fun _ => #[]) upd_same hoL2 rfl .nil (Nat.zero_le _)
  rw [upd_upd] at I2
  obtain ⟨e1, ho1⟩ : ∃ e1, (s1.heap.update D (Obj.mapSeq fun _ => #[])).get? D = some (seqObj "list" #[] e1) := ⟨_, get?_update_seq hoL2 (fun _ => #[])⟩
  refine wpAny_bind (seqEpoch_at ho1 rfl ?_)
  refine wpAny_bind (wpAny_newTuple ?_ (by show vs.length ≤ _; omega))
  refine wpAny_bind (wpAny_newList ?_ (Nat.zero_le _))
  refine wpAny_holding ?_
  have hna := I2.nofrz upd_same trivial
  obtain ⟨od, I3⟩ := I2.lock upd_same trivial
  rw [upd_upd] at I3
  have eod : od = seqObj "list" #[] e1 := by
    have e := (I3.hok D _ upd_same).1
    exact Option.some.inj (e.symm.trans ho1)
  subst eod
  have I4 := I3.kept (t' := s1.toks) (h' := (s1.heap.update D (Obj.mapSeq fun _ => #[])).push (seqObj "tuple" vs.toArray 0)) fun b u e => Heap.get?_push_of_some _ e
  have I5 := I4.lnew (t' := s1.toks) (ys := []) (its := []) .nil (Nat.zero_le _)
  have hk0 := I4.fresh
  show wpAny _ _ (ksk_rest D (.ref f) false vs.toArray e1 (.ref ((s1.heap.update D (Obj.mapSeq fun _ => #[])).push (seqObj "tuple" vs.toArray 0)).objs.size)) _ _ { s1 with heap := ((s1.heap.update D (Obj.mapSeq fun _ => #[])).push (seqObj "tuple" vs.toArray 0)).push (seqObj "list" #[] 0) }
  have I5 : Inv X pins σ (upd (upd H D (.frz (seqObj "list" #[] e1) (.lst []))) ((s1.heap.update D (Obj.mapSeq fun _ => #[])).push (seqObj "tuple" vs.toArray 0)).objs.size (.lst [])) { s1 with heap := ((s1.heap.update D (Obj.mapSeq fun _ => #[])).push (seqObj "tuple" vs.toArray 0)).push (seqObj "list" #[] 0) } := I5
  have hk0 : upd H D (.frz (seqObj "list" #[] e1) (.lst [])) ((s1.heap.update D (Obj.mapSeq fun _ => #[])).push (seqObj "tuple" vs.toArray 0)).objs.size = none := hk0
  generalize ((s1.heap.update D (Obj.mapSeq fun _ => #[])).push (seqObj "tuple" vs.toArray 0)).objs.size = kS at I5 hk0
  generalize ({ s1 with heap := ((s1.heap.update D (Obj.mapSeq fun _ => #[])).push (seqObj "tuple" vs.toArray 0)).push (seqObj "list" #[] 0) } : Shared) = s5 at I5
  have hkD : D ≠ kS := ne_of_none upd_same hk0
  have hkH : H kS = none := by
    rw [upd_ne hkD.symm] at hk0
    exact hk0
  have sm5 : Same H (upd (upd H D (.frz (seqObj "list" #[] e1) (.lst []))) kS (.lst [])) := fun b o hb => by
    rw [upd_ne (ne_of_none hb hkH), upd_ne (ne_of_none hb hD0)]
    exact hb
  unfold ksk_rest
  refine wpAny_bind (wpAny_rule ?_)
  rw [List.forIn_toArray]
  refine wpAny_bind (wpAny_mono (key_fold (g := g) (H0 := H) (kS := kS) (a := D) (oa := seqObj "list" #[] e1) F hr hb hkH ?hbody vs xs [] [] _ s5 rv I5 sm5 upd_same (by rw [upd_ne hkD]; exact upd_same) .nil (by simpa using hz) fun x hx => (hg x hx).1) ?_ fun _ _ z => z)
  case hbody =>
    intro x s' R hx
    refine wpAny_bind (wpAny_attempt (wpAny_mono hx (fun v s'' hv => ?_) fun _ _ z => z.elim))
    try dsimp only
    exact wpAny_bind (wpAny_mono hv (fun _ s3 h3 => wpAny_pure ⟨rfl, h3⟩) fun _ _ z => z)
  rintro _ s6 ⟨H6, kvs, I6, sm6, k6, d6, p6⟩
  obtain ⟨_, keys, n6, rk, _, hko⟩ := I6.lstM k6
  try dsimp only
  refine wpAny_bind (listItems_at hko rfl ?_)
  refine sort_end (g := g) I6 sm6 hkH hD0 hna k6 d6 p6 rv rk hko hz (fun x hx => (hg x hx).2) fun H7 ys s7 I7 sm7 d7 y1 y2 => ?_
  exact ⟨_, rfl, wpAny_pure ⟨_, rfl, .ref D, H7, I7, rfl, q H7 ys D sm7 y1 y2 hD0 d7⟩⟩
theorem pe_sortedK {e : Expr} {te : TE} {y : Str} {p p2 p3 pos : Pos} (F : FnOk X.prog X.w X.K X.mg X.base CX0 k f fd ps sp) (hr : Room (k + 2) X.A) (hb : Binds X.K fd ps []) (hy : Gl X y) (hm : X.mg y = some (.ref f))
    (hg : Gl X "sorted") (hs : X.mg "sorted" = none) (he : PE X e te) (hst : starEach [e] X.env = (false, eval e X.env) :: starEach [] X.env := by rfl) (hd : (y == ("__debug__" : Str)) = false := by decide) :
    PE X (.Call (.Name "sorted" p) [e] [⟨some "key", .Name y p2, p3⟩] pos) (tSortK X.K sp te) := by
  intro pins s σ H Q I h
  have hpa : PA X [e] (tCons te tNil) := pa_cons he pa_nil hst
  have hpk : PK X [⟨some "key", .Name y p2, p3⟩] (tCons (tC (.ref f)) tNil) := pk_cons (pe_glob hy hm rfl hd) pk_nil
  refine wpAny_Call_Name_kw (ld_blt I hg hs (by rfl) ?_ (by decide) (by decide))
  have h1 : tCons te tNil σ H (fun vs H1 => match vs with
      | [x] => ∃ (a : Addr) (xs : List V) (g : V → List Int), x = .ref a ∧ SqL X.K H1 a xs ∧ (∀ y ∈ xs, KeyFn sp g H1 y ∧ g y ≠ []) ∧
          ∀ (H' : Hp) (ys : List V) (p : Addr), Same H1 H' → ys.Perm xs → ys.Pairwise (fun x y => LexLe (g x) (g y)) → H1 p = none → H' p = some (.lst ys) → Q (.ref p) H'
      | _ => False) := h
  refine PyProof.Rows.callWith_kw (thn (hpa pos pins s σ H _ I h1) fun us s1 ⟨vs, H1, I1, r, q⟩ => ?_) (by rw [hst]; rfl) (by rw [hst]; rfl)
  obtain ⟨x, e1, a, xs, g, e2, q1, q2, q3⟩ : ∃ x, vs = [x] ∧ ∃ (a : Addr) (xs : List V) (g : V → List Int), x = .ref a ∧ SqL X.K H1 a xs ∧ (∀ y ∈ xs, KeyFn sp g H1 y ∧ g y ≠ []) ∧
      ∀ (H' : Hp) (ys : List V) (p : Addr), Same H1 H' → ys.Perm xs → ys.Pairwise (fun x y => LexLe (g x) (g y)) → H1 p = none → H' p = some (.lst ys) → Q (.ref p) H' := by
    match vs, q with
    | [x], q => exact ⟨x, rfl, q⟩
  subst e1 e2
  refine thn (hpk pos pins s1 σ H1 (fun zs H2 => zs = [.ref f] ∧ H2 = H1) I1 ⟨rfl, rfl⟩) fun ws s2 ⟨zs, H2, I2, rz, e3, e4⟩ => ?_
  subst e3 e4
  rw [Vals.ref1 r, Vals.ref1 rz]
  exact sort_call F hr hb I2 q1 q2 q3
end
end L2

set_option Elab.async false
/-! The board's mathematics, over the specification alone. -/
namespace Sb
open Km345
/-! ### one list of orders, in effect one behind another -/
theorem insert_perm (o : Order) : ∀ l : List Order, (Km345.insert o l).Perm (o :: l)
  | [] => .refl _
  | p :: l => by
    by_cases h : o.before p = true
    · rw [insert_pos h]
    · rw [insert_neg h]
      exact ((insert_perm o l).cons p).trans (.swap o p l)
theorem insertNumber_perm (o : Order) : ∀ l : List Order, (insertNumber o l).Perm (o :: l)
  | [] => .refl _
  | p :: l => by
    unfold insertNumber
    split
    · exact .refl _
    · exact ((insertNumber_perm o l).cons p).trans (.swap o p l)
theorem sorted_perm_aux : ∀ (l acc : List Order), (l.foldl (fun s o => Km345.insert o s) acc).Perm (l ++ acc)
  | [], acc => .refl _
  | o :: l, acc => by
    rw [List.foldl_cons]
    refine (sorted_perm_aux l _).trans ?_
    refine (List.Perm.append_left l (insert_perm o acc)).trans ?_
    exact List.perm_middle
theorem sorted_perm (l : List Order) : (sorted l).Perm l := by
  have := sorted_perm_aux l []
  rw [List.append_nil] at this
  exact this
/-- no two of like numbers -/
def Apart (l : List Order) : Prop := l.Pairwise fun a b => a.number ≠ b.number
theorem Apart.perm {l m : List Order} (h : Apart l) (p : l.Perm m) : Apart m := p.pairwise h (fun h => fun e => h e.symm)
theorem Apart.inj {l : List Order} (h : Apart l) : ∀ {a b : Order}, a ∈ l → b ∈ l → a.number = b.number → a = b := by
  induction l with
  | nil => intro a b ha; cases ha
  | cons c l ih =>
    obtain ⟨h1, h2⟩ := List.pairwise_cons.mp h
    intro a b ha hb e
    rcases List.mem_cons.mp ha with ea | ha <;> rcases List.mem_cons.mp hb with eb | hb
    · rw [ea, eb]
    · rw [ea] at e
      exact absurd e (h1 b hb)
    · rw [eb] at e
      exact absurd e.symm (h1 a ha)
    · exact ih h2 ha hb e
theorem asc_unique : ∀ {l m : List Order}, Asc l → Asc m → l.Perm m → Apart l → l = m
  | [], m, _, _, p, _ => (List.nil_perm.mp p).symm
  | a :: l, [], _, _, p, _ => absurd p.length_eq (by simp)
  | a :: l, b :: m, hl, hm, p, ap => by
    have e : a = b := by
      have ha : a ∈ b :: m := p.mem_iff.mp List.mem_cons_self
      have hb : b ∈ a :: l := p.mem_iff.mpr List.mem_cons_self
      rcases List.mem_cons.mp ha with e | ha
      · exact e
      rcases List.mem_cons.mp hb with e | hb
      · exact e.symm
      have h1 := (List.pairwise_cons.mp hm).1 a ha
      have h2 := (List.pairwise_cons.mp hl).1 b hb
      rw [before_iff] at h1 h2
      exact ap.inj List.mem_cons_self (List.mem_cons_of_mem _ hb) (by omega)
    subst e
    rw [asc_unique (List.pairwise_cons.mp hl).2 (List.pairwise_cons.mp hm).2 ((List.perm_cons _).mp p) (List.pairwise_cons.mp ap).2]
/-- the orders for one gain, one behind another -/
def lane (l : List Order) (c b : Nat) : List Order := (sorted l).filter fun o => o.channel == c && o.bus == b
theorem asc_lane (l : List Order) (c b : Nat) : Asc (lane l c b) := asc_filter _ (asc_sorted l)
theorem lane_nil (c b : Nat) : lane [] c b = [] := rfl
theorem lane_put {l : List Order} {o : Order} (h : Apart (o :: l)) (c b : Nat) : lane (insertNumber o l) c b = if o.channel = c ∧ o.bus = b then Km345.insert o (lane l c b) else lane l c b := by
  have e : sorted (insertNumber o l) = Km345.insert o (sorted l) := by
    refine asc_unique (asc_sorted _) (asc_insert o (asc_sorted l)) ?_ (h.perm ((insertNumber_perm o l).symm.trans (sorted_perm _).symm))
    exact ((sorted_perm _).trans (insertNumber_perm o l)).trans ((insert_perm o _).trans ((sorted_perm l).cons o)).symm
  unfold lane
  rw [e, filter_insert _ _ (asc_sorted l)]
  by_cases hc : o.channel = c ∧ o.bus = b
  · rw [if_pos hc, if_pos (by simp [hc.1, hc.2])]
  · rw [if_neg hc, if_neg (by simp; intro h1 h2; exact hc ⟨h1, h2⟩)]
theorem mem_lane {l : List Order} {c b : Nat} {o : Order} (h : o ∈ lane l c b) : o ∈ l ∧ o.channel = c ∧ o.bus = b := by
  unfold lane at h
  rw [List.mem_filter, mem_sorted] at h
  simp at h
  exact h
theorem lane_apart {l : List Order} (h : Apart l) (c b : Nat) : Apart (lane l c b) := List.Pairwise.filter _ (h.perm (sorted_perm l).symm)
theorem lane_length (l : List Order) (c b : Nat) : (lane l c b).length ≤ l.length := by
  unfold lane
  exact Nat.le_trans (List.length_filter_le _ _) (Nat.le_of_eq (sorted_perm l).length_eq)
/-- an order's place is found by sorting -/
theorem insert_unique {l m : List Order} {o : Order} (ha : Asc l) (hm : Asc m) (p : m.Perm (l ++ [o])) (ap : Apart (l ++ [o])) : m = Km345.insert o l := by
  refine asc_unique hm (asc_insert o ha) ?_ (ap.perm p.symm)
  exact p.trans ((List.perm_append_comm (l₁ := l) (l₂ := [o])).trans (insert_perm o l).symm)

/-! ### ways and steps -/
def way (l : List Order) : Move := l.foldl Move.then_ still
theorem way_snoc (l : List Order) (o : Order) : way (l ++ [o]) = (way l).then_ o := by
  unfold way
  rw [List.foldl_append]
  rfl
/-- each order with the gain that it begins from -/
def stepsM (m : Move) : List Order → List (Order × Int)
  | [] => []
  | o :: l => (o, m.at_ o.time) :: stepsM (m.then_ o) l
def steps (l : List Order) : List (Order × Int) := stepsM still l
theorem stepsM_snoc (o : Order) : ∀ (l : List Order) (m : Move), stepsM m (l ++ [o]) = stepsM m l ++ [(o, (l.foldl Move.then_ m).at_ o.time)]
  | [], _ => rfl
  | p :: l, m => by
    show (p, m.at_ p.time) :: stepsM (m.then_ p) (l ++ [o]) = _
    rw [stepsM_snoc o l]
    rfl
theorem steps_snoc (l : List Order) (o : Order) : steps (l ++ [o]) = steps l ++ [(o, (way l).at_ o.time)] := stepsM_snoc o l still
theorem stepsM_fst : ∀ (l : List Order) (m : Move), (stepsM m l).map Prod.fst = l
  | [], _ => rfl
  | o :: l, m => congrArg (List.cons o) (stepsM_fst l _)
theorem steps_fst (l : List Order) : (steps l).map Prod.fst = l := stepsM_fst l still
theorem steps_length (l : List Order) : (steps l).length = l.length := by
  rw [← List.length_map (f := Prod.fst), steps_fst]
/-- by one step -/
def byStep (s : Order × Int) (t : Nat) : Int := (Move.mk s.2 s.1.gain s.1.time s.1.fade).at_ t
/-- by the last step that isn't behind the sample, of the steps from the end on -/
def alongR (t : Nat) : List (Order × Int) → Int
  | [] => 0
  | s :: l => if s.1.time ≤ t then byStep s t else alongR t l
def along (l : List (Order × Int)) (t : Nat) : Int := alongR t l.reverse
theorem still_at (t : Nat) : still.at_ t = 0 := by
  show (if 0 + 0 ≤ t then (0 : Int) else _) = 0
  rw [if_pos (Nat.zero_le _)]
/-- times that don't fall -/
def Rise (l : List Order) : Prop := l.Pairwise fun a b => a.time ≤ b.time
theorem Asc.rise {l : List Order} (h : Asc l) : Rise l := List.Pairwise.imp (fun {a b} h => by rw [before_iff] at h; omega) h
theorem rise_snoc {l : List Order} {o : Order} (h : Rise (l ++ [o])) : Rise l ∧ ∀ p ∈ l, p.time ≤ o.time := by
  obtain ⟨h1, _, h3⟩ := List.pairwise_append.mp h
  exact ⟨h1, fun p hp => h3 p hp o (List.mem_singleton.mpr rfl)⟩
theorem along_steps (t : Nat) : ∀ (n : Nat) (l : List Order), l.length = n → Rise l → along (steps l) t = (way (l.filter fun o => decide (o.time ≤ t))).at_ t
  | 0, l, hl, _ => by
    have : l = [] := List.length_eq_zero_iff.mp hl
    subst this
    exact (still_at t).symm
  | n + 1, l, hl, h => by
    have hne : l ≠ [] := fun e => by rw [e] at hl; cases hl
    obtain ⟨m, o, rfl⟩ : ∃ m o, l = m ++ [o] := ⟨l.dropLast, l.getLast hne, (List.dropLast_concat_getLast hne).symm⟩
    obtain ⟨h1, h2⟩ := rise_snoc h
    have hm : m.length = n := by
      rw [List.length_append, List.length_singleton] at hl
      omega
    have ih := along_steps t n m hm h1
    have e1 : along (steps (m ++ [o])) t = if o.time ≤ t then byStep (o, (way m).at_ o.time) t else along (steps m) t := by
      unfold along
      rw [steps_snoc, List.reverse_append]
      rfl
    rw [e1, List.filter_append]
    by_cases hc : o.time ≤ t
    · rw [if_pos hc]
      have e2 : m.filter (fun o => decide (o.time ≤ t)) = m := List.filter_eq_self.mpr fun p hp => decide_eq_true (Nat.le_trans (h2 p hp) hc)
      have e3 : [o].filter (fun o => decide (o.time ≤ t)) = [o] := by simp [hc]
      rw [e2, e3, way_snoc]
      rfl
    · rw [if_neg hc, ih]
      have e3 : [o].filter (fun o => decide (o.time ≤ t)) = [] := by simp [hc]
      rw [e3, List.append_nil]
/-- what an order begins from -/
theorem along_begun {l : List Order} {o : Order} (h : Rise (l ++ [o])) : along (steps l) o.time = (way l).at_ o.time := by
  obtain ⟨h1, h2⟩ := rise_snoc h
  rw [along_steps o.time _ l rfl h1, List.filter_eq_self.mpr fun p hp => decide_eq_true (h2 p hp)]
theorem gain_lane (l : List Order) (c b t : Nat) : gainAt l c b t = along (steps (lane l c b)) t := by
  rw [along_steps t _ _ rfl (asc_lane l c b).rise]
  unfold gainAt wayAt lane way
  rw [List.filter_filter]
  congr 2
  congr 1
  funext o
  cases h1 : (o.channel == c) <;> cases h2 : (o.bus == b) <;> cases h3 : decide (o.time ≤ t) <;> rfl
end Sb

set_option Elab.async false
set_option maxRecDepth 100000
set_option maxHeartbeats 4000000
/-! Steps: gain_by, gain_along, time_then_number, steps_of. -/
namespace L2
open PySem PySem.Spec PyProof.Rows
theorem for_rev {K : PySem.W.Frag} {a : Addr} {xs : List V} {g : TG} {tb : TS} {D : Ends} {σ : St} {H : Hp} (Pv : Nat → St → Hp → Prop) (h0 : Pv 0 σ H) (hl : ∀ i σ H, i ≤ xs.length → Pv i σ H → SqL K H a xs)
    (hs : ∀ i x σ H, xs.reverse[i]? = some x → Pv i σ H → g x σ H fun σ2 H2 => tb { D with nx := Pv (i + 1), ct := Pv (i + 1), bk := D.nx } σ2 H2) (hd : ∀ σ H, Pv xs.length σ H → D.nx σ H) :
    ∃ W : Nat → Nat → St → Hp → Prop, (∃ m, W 0 m σ H) ∧ ∀ i m σ H, W i m σ H →
      ((Itv K a xs.length).stop i H ∧ D.nx σ H) ∨ ((Itv K a xs.length).go i H ∧ ∃ N : St → Hp → Prop, (∀ σ' H', N σ' H' → ∃ m', m' < m ∧ W (i + 1) m' σ' H') ∧ ∀ x H', (Itv K a xs.length).yld i H x H' → g x σ H' fun σ2 H2 => tb { D with nx := N, ct := N, bk := D.nx } σ2 H2) := by
  refine ⟨fun i m σ H => m = xs.length - i ∧ i ≤ xs.length ∧ Pv i σ H, ⟨xs.length, rfl, Nat.zero_le _, h0⟩, ?_⟩
  rintro i m σ H ⟨rfl, hi, p⟩
  have q := hl i σ H hi p
  rcases Nat.lt_or_ge i xs.length with hlt | hge
  · have hx : xs[xs.length - 1 - i]? = some (xs[xs.length - 1 - i]'(by omega)) := List.getElem?_eq_getElem _
    refine .inr ⟨⟨hlt, xs, _, q, hx⟩, Pv (i + 1), fun σ' H' p' => ⟨xs.length - (i + 1), by omega, rfl, hlt, p'⟩, ?_⟩
    rintro x H' ⟨rfl, y⟩
    refine hs i x σ _ ?_ p
    rw [List.getElem?_reverse hlt]
    exact y xs q
  · have e : i = xs.length := by omega
    subst e
    exact .inl ⟨Nat.le_refl _, hd σ H p⟩
end L2
namespace Sb
open PySem PySem.Spec PyProof.Rows L2
open Km345 (Order Seal)
abbrev sTInit : Stmt := inClass (top 36) 0
abbrev sGBy : Stmt := top 37
abbrev sGAl : Stmt := top 38
abbrev sTTN : Stmt := top 39
abbrev sStO : Stmt := top 40
/-! ### a step -/
def tfs (oa : Addr) (g : Int) : List (Str × V) := [("order", .ref oa), ("begun", .int g)]
theorem tfs_order (oa : Addr) (g : Int) : (tfs oa g).lookup ("order" : Str) = some (.ref oa) := lk_here
theorem tfs_begun (oa : Addr) (g : Int) : (tfs oa g).lookup ("begun" : Str) = some (.int g) := lk_next (by decide +kernel) lk_here
/-- a step stands at a; R holds of what it is made of -/
def StepAt (CT CO : Addr) (R : Addr → Prop) (H : Hp) (s : Order × Int) (a : Addr) : Prop := ∃ dx oa, H a = some (.ins CT dx (tfs oa s.2)) ∧ OrdAt CO H oa s.1 ∧ R a ∧ R oa
theorem StepAt.mono {CT CO : Addr} {R R' : Addr → Prop} {H H' : Hp} {s : Order × Int} {a : Addr} (h : StepAt CT CO R H s a) (hr : ∀ b, R b → R' b) (k : ∀ b u, R b → H b = some u → H' b = some u) : StepAt CT CO R' H' s a := by
  obtain ⟨dx, oa, h1, ⟨dxo, h2⟩, h3, h4⟩ := h
  exact ⟨dx, oa, k _ _ h3 h1, ⟨dxo, k _ _ h4 h2⟩, hr _ h3, hr _ h4⟩
structure TxT (K : PySem.W.Frag) (CT : Addr) : Prop where
  cl : Cls K CT
  nOrder : NoAttr K CT "order"
  nBegun : NoAttr K CT "begun"
/-! ### promises -/
def spTInit (CT : Addr) : Sp := fun vs H Q _ => ∃ (p dx oa : Addr) (g : Int), vs = [.ref p, .ref oa, .int g] ∧ H p = some (.ins CT dx []) ∧
  ∀ H' : Hp, H' p = some (.ins CT dx (tfs oa g)) → (∀ b u, H b = some u → b ≠ p → H' b = some u) → Q .non H'
def spGBy (CT CO : Addr) : Sp := fun vs H Q _ => ∃ (a : Addr) (R : Addr → Prop) (s : Order × Int) (t : Nat), vs = [.ref a, .int (t : Int)] ∧ StepAt CT CO R H s a ∧ s.1.time ≤ t ∧ s.1.fade ≤ 480000 ∧ Q (.int (byStep s t)) H
def spGAl (CT CO : Addr) : Sp := fun vs H Q _ => ∃ (la : Addr) (R : Addr → Prop) (sas : List Addr) (ss : List (Order × Int)) (t : Nat), vs = [.ref la, .int (t : Int)] ∧ H la = some (.lst (sas.map V.ref)) ∧ Paired (StepAt CT CO R H) ss sas ∧ (∀ s ∈ ss, s.1.fade ≤ 480000) ∧ Q (.int (along ss t)) H
def spTTN (K : PySem.W.Frag) : Sp := fun vs H Q _ => ∃ (a C dx : Addr) (fs : List (Str × V)) (t n : Int), vs = [.ref a] ∧ H a = some (.ins C dx fs) ∧ Cls K C ∧ NoAttr K C "time" ∧ NoAttr K C "number" ∧ fs.lookup ("time" : Str) = some (.int t) ∧ fs.lookup ("number" : Str) = some (.int n) ∧
  ∀ p, H p = none → Q (.ref p) (upd H p (.tup [.int t, .int n]))
def spStO (CT CO : Addr) : Sp := fun vs H Q _ => ∃ (a : Addr) (oas : List Addr) (l : List Order), vs = [.ref a] ∧ H a = some (.lst (oas.map V.ref)) ∧ Paired (fun o oa => OrdAt CO H oa o) l oas ∧ l.length ≤ 50000 ∧ (∀ o ∈ l, o.fade ≤ 480000) ∧
  ∀ (H' : Hp) (la : Addr) (sas : List Addr) (m : List Order), m.Perm l → Asc m → Same H H' → H la = none → H' la = some (.lst (sas.map V.ref)) → Paired (StepAt CT CO (fun b => H b = none ∨ b ∈ oas) H') (steps m) sas → Q (.ref la) H'
section
variable {P : Program} {w : World} {K : PySem.W.Frag} {mg : Str → Option Value} {base : Heap}
/-! ### Step.__init__ -/
theorem scTI : FnScope ["self", "order", "begun"] ["self", "order", "begun"] (defScope sTInit) := ⟨rfl, rfl, rfl, by decide +kernel, rfl, by decide +kernel, by decide +kernel⟩
theorem ok_tinit {f CT : Addr} {fd : FuncData} (F : Fun K "__init__" "Step.__init__" sTInit f fd) (T : TxT K CT) : FnOk P w K mg base CX0 1 f fd ["self", "order", "begun"] (spTInit CT) := by
  refine F.ok scTI (fun vs H Q E h => ?_) (fun cdv A outer s H vs Q E hr h => ?_)
  · obtain ⟨p, dx, oa, g, rfl, _⟩ := h
    rfl
  · obtain ⟨p, dx, oa, g, rfl, hp, k⟩ := h
    refine ⟨_, pss_cons (ps_fld (pv 0) (pv 1) rfl) (pss_one (ps_fld (pv 0) (pv 2) rfl)), ?_⟩
    refine ⟨_, rfl, _, rfl, p, CT, dx, _, rfl, hp, T.cl, T.nOrder, (by decide), ?_⟩
    refine ⟨_, rfl, _, rfl, p, CT, dx, _, rfl, upd_same, T.cl, T.nBegun, Nat.lt_of_le_of_lt (put_len (Nat.le_refl 0)) (by decide), ?_⟩
    rw [upd_upd]
    refine k _ upd_same fun b u e hb => ?_
    rw [upd_ne hb]
    exact e
/-! ### gain_by -/
theorem scGB : FnScope ["step", "time", "order", "past"] ["step", "time"] (defScope sGBy) := ⟨rfl, rfl, rfl, by decide +kernel, rfl, by decide +kernel, by decide +kernel⟩
theorem ok_gby {f CT CO : Addr} {fd : FuncData} (F : Fun K "gain_by" "gain_by" sGBy f fd) (T : TxT K CT) (TM : TxM K mg CO) : FnOk P w K mg base CX0 1 f fd ["step", "time"] (spGBy CT CO) := by
  refine F.ok scGB (fun vs H Q E h => ?_) (fun cdv A outer s H vs Q E hr h => ?_)
  · obtain ⟨a, R, s, t, rfl, _⟩ := h
    rfl
  · obtain ⟨a, R, s, t, rfl, ⟨dx, oa, ha, ⟨dxo, ho⟩, _, _⟩, ht, hf, q⟩ := h
    refine ⟨_, pss_cons (ps_set (i := 2) scGB.nd rfl (Or.inl rfl) (pe_fld (pv 0) rfl))
      (pss_cons (ps_set (i := 3) scGB.nd rfl (Or.inl rfl) (pe_op op_sub (pv 1) (pe_fld (pv 2) rfl)))
      (pss_cons (ps_if (pt_cmpR op_ge (pv 3) (pe_fld (pv 2) rfl) (nomark _)) (pss_one (ps_ret (pe_fld (pv 2) rfl))) pss_nil)
      (pss_one (ps_ret (pe_op op_add (pe_fld (pv 0) rfl) (pe_op op_fdiv (pe_op op_mul (pe_op op_sub (pe_fld (pv 2) rfl) (pe_fld (pv 0) rfl)) (pv 3)) (pe_fld (pv 2) rfl))))))), ?_⟩
    refine ⟨_, rfl, a, CT, dx, _, _, rfl, ha, T.cl, T.nOrder, tfs_order _ _, _, rfl, _, rfl, oa, CO, dxo, _, _, rfl, ho, TM.clO, TM.nTime, ofs_time _, _, _, rfl, rfl, ?_⟩
    refine ⟨_, rfl, _, rfl, oa, CO, dxo, _, _, rfl, ho, TM.clO, TM.nFade, ofs_fade _, _, _, rfl, rfl, _, rfl, ite2 (fun c => ?_) (fun c => ?_)⟩
    · have c := of_decide_eq_true c
      refine ⟨_, rfl, oa, CO, dxo, _, _, rfl, ho, TM.clO, TM.nGain, ofs_gain _, ?_⟩
      have e : byStep s t = (s.1.gain : Int) := if_pos (show s.1.time + s.1.fade ≤ t by omega)
      rw [e] at q
      exact q
    · have c : ¬ (s.1.fade : Int) ≤ (t : Int) - (s.1.time : Int) := fun z => c (decide_eq_true z)
      refine ⟨_, rfl, a, CT, dx, _, _, rfl, ha, T.cl, T.nBegun, tfs_begun _ _, _, rfl, oa, CO, dxo, _, _, rfl, ho, TM.clO, TM.nGain, ofs_gain _, _, rfl, a, CT, dx, _, _, rfl, ha, T.cl, T.nBegun, tfs_begun _ _, _, _, rfl, rfl, _, rfl, _, _, rfl, rfl, .inr ⟨by omega, by omega⟩,
        _, rfl, oa, CO, dxo, _, _, rfl, ho, TM.clO, TM.nFade, ofs_fade _, _, _, rfl, rfl, ⟨by omega, by omega⟩, _, _, rfl, rfl, ?_⟩
      have e : byStep s t = s.2 + ((s.1.gain : Int) - s.2) * ((t : Int) - (s.1.time : Int)) / (s.1.fade : Int) := if_neg (show ¬ s.1.time + s.1.fade ≤ t by omega)
      rw [e] at q
      exact q
/-! ### gain_along -/
theorem paired_get {α β : Type} {R : α → β → Prop} : ∀ {l : List α} {m : List β} {i : Nat} {b : β}, Paired R l m → m[i]? = some b → ∃ a, l[i]? = some a ∧ R a b
  | _, _, _, _, .nil, h => by cases h
  | a :: _, _, 0, _, .cons r _, h => by
    cases h
    exact ⟨a, rfl, r⟩
  | _, _, i + 1, _, .cons _ t, h => paired_get (i := i) t h
theorem paired_reverse {α β : Type} {R : α → β → Prop} : ∀ {l : List α} {m : List β}, Paired R l m → Paired R l.reverse m.reverse
  | _, _, .nil => .nil
  | _, _, .cons r t => by
    rw [List.reverse_cons, List.reverse_cons]
    exact paired_snoc r (paired_reverse t)
theorem scGA : FnScope ["steps", "time", "step"] ["steps", "time"] (defScope sGAl) := ⟨rfl, rfl, rfl, by decide +kernel, rfl, by decide +kernel, by decide +kernel⟩
theorem ok_gal {f fB CT CO : Addr} {fd fdB : FuncData} (F : Fun K "gain_along" "gain_along" sGAl f fd) (T : TxT K CT) (TM : TxM K mg CO) (hR : mg "reversed" = none)
    (GB : FnOk P w K mg base CX0 1 fB fdB ["step", "time"] (spGBy CT CO)) (kB : PySem.W.keepIn K (.ref fB) = true) (bB : Binds K fdB ["step", "time"] []) (mB : mg "gain_by" = some (.ref fB)) :
    FnOk P w K mg base CX0 2 f fd ["steps", "time"] (spGAl CT CO) := by
  refine F.ok scGA (fun vs H Q E h => ?_) (fun cdv A outer s H vs Q E hr h => ?_)
  · obtain ⟨la, R, sas, ss, t, rfl, _⟩ := h
    rfl
  · obtain ⟨la, R, sas, ss, t, rfl, hl, hp, hf, q⟩ := h
    have hpr := paired_reverse hp
    have hlen := Paired.length hp
    refine ⟨_, pss_cons (ps_for PassesOwn.never rfl (pi_reversed rfl hR (pa_cons (pv 0) pa_nil)) (pg_name (i := 2) scGA.nd rfl (Or.inl rfl))
        (pss_one (ps_if (pt_cmpR op_le (pe_fld (pe_fld (pv 2) rfl) rfl) (pv 1) (nomark _)) (pss_one (ps_ret (pe_call GB hr rfl mB kB bB .nil pass0 (pa_cons (pv 2) (pa_cons (pv 1) pa_nil))))) pss_nil)))
      (pss_one (ps_ret pe_int)), ?_⟩
    refine ⟨_, rfl, la, _, rfl, SqL.of hl, for_rev (K := K) (a := la) (xs := sas.map V.ref) (fun i σ H' => ∃ v2 : Option V, σ = [some (.ref la), some (.int (t : Int)), v2] ∧ H' = H ∧ along ss t = alongR t (ss.reverse.drop i)) ⟨none, rfl, rfl, rfl⟩ ?_ ?_ ?_⟩
    · rintro i σ H' _ ⟨_, _, rfl, _⟩
      exact SqL.of hl
    · rintro i x σ H' hx ⟨v2, rfl, rfl, ha⟩
      rw [← List.map_reverse, List.getElem?_map] at hx
      obtain ⟨sa, hsa, rfl⟩ : ∃ sa, sas.reverse[i]? = some sa ∧ x = V.ref sa := by
        cases e : sas.reverse[i]? with
        | none => rw [e] at hx; cases hx
        | some z => rw [e] at hx; exact ⟨z, rfl, (Option.some.inj hx).symm⟩
      obtain ⟨s, hs, hst⟩ := paired_get hpr hsa
      have hd : ss.reverse.drop i = s :: ss.reverse.drop (i + 1) := by
        obtain ⟨h1, h2⟩ := List.getElem?_eq_some_iff.mp hs
        rw [List.drop_eq_getElem_cons h1, h2]
      have hmem : s ∈ ss := List.mem_reverse.mp (List.mem_of_getElem? hs)
      rw [hd] at ha
      have ha : along ss t = if s.1.time ≤ t then byStep s t else alongR t (ss.reverse.drop (i + 1)) := ha
      obtain ⟨dx, oa, h1, ⟨dxo, ho⟩, h3, h4⟩ := id hst
      refine ⟨_, rfl, sa, CT, dx, _, _, rfl, h1, T.cl, T.nOrder, tfs_order _ _, oa, CO, dxo, _, _, rfl, ho, TM.clO, TM.nTime, ofs_time _, _, rfl, _, _, rfl, rfl, _, rfl, ite2 (fun c => ?_) (fun c => ?_)⟩
      · have c := of_decide_eq_true c
        rw [if_pos (by omega)] at ha
        refine ⟨_, rfl, _, rfl, sa, R, s, t, rfl, hst, by omega, hf s hmem, ?_⟩
        rw [← ha]
        exact q
      · have c : ¬ (s.1.time : Int) ≤ (t : Int) := fun z => c (decide_eq_true z)
        rw [if_neg (by omega)] at ha
        exact ⟨_, rfl, rfl, ha⟩
    · rintro σ H' ⟨v2, rfl, rfl, ha⟩
      rw [List.length_map, ← hlen, List.drop_eq_nil_of_le (by rw [List.length_reverse]; exact Nat.le_refl _)] at ha
      rw [ha] at q
      exact q
/-! ### time_then_number -/
theorem scTN : FnScope ["told"] ["told"] (defScope sTTN) := ⟨rfl, rfl, rfl, by decide +kernel, rfl, by decide +kernel, by decide +kernel⟩
theorem ok_ttn {f : Addr} {fd : FuncData} (F : Fun K "time_then_number" "time_then_number" sTTN f fd) : FnOk P w K mg base CX0 1 f fd ["told"] (spTTN K) := by
  refine F.ok scTN (fun vs H Q E h => ?_) (fun cdv A outer s H vs Q E hr h => ?_)
  · obtain ⟨a, C, dx, fs, t, n, rfl, _⟩ := h
    rfl
  · obtain ⟨a, C, dx, fs, t, n, rfl, ha, cl, n1, n2, l1, l2, q⟩ := h
    refine ⟨_, pss_one (ps_ret (pe_tup (pa_cons (pe_fld (pv 0) rfl) (pa_cons (pe_fld (pv 0) rfl) pa_nil)))), ?_⟩
    exact ⟨_, rfl, a, C, dx, _, _, rfl, ha, cl, n1, l1, _, rfl, a, C, dx, _, _, rfl, ha, cl, n2, l2, (by show 2 ≤ sizeLine; decide), fun p hp => q p hp⟩
end
end Sb

set_option Elab.async false
set_option maxRecDepth 100000
set_option maxHeartbeats 4000000
/-! steps_of. -/
namespace Sb
open PySem PySem.Spec PyProof.Rows L2
open Km345 (Order Seal)
theorem lexLe_pair {t n t' n' : Nat} (h : LexLe [(t : Int), (n : Int)] [(t' : Int), (n' : Int)]) : ¬ (t' < t ∨ (t' = t ∧ n' < n)) := by
  have h : ((decide ((t' : Int) < (t : Int))) || (!decide ((t : Int) < (t' : Int)) && (decide ((n' : Int) < (n : Int)) || (!decide ((n : Int) < (n' : Int)) && false)))) = false := h
  rintro (z | ⟨z1, z2⟩)
  · rw [decide_eq_true (show (t' : Int) < (t : Int) by omega)] at h
    cases h
  · subst z1
    rw [decide_eq_false (show ¬ (t' : Int) < (t' : Int) by omega), decide_eq_true (show (n' : Int) < (n : Int) by omega)] at h
    cases h
def iOf : Option V → Int
  | some (.int i) => i
  | _ => 0
/-- an order's key, by the heap -/
def gKey (H : Hp) : V → List Int
  | .ref a => match H a with
    | some (.ins _ _ fs) => [iOf (fs.lookup ("time" : Str)), iOf (fs.lookup ("number" : Str))]
    | _ => [0]
  | _ => [0]
theorem gKey_of {CO : Addr} {H : Hp} {a : Addr} {o : Order} (h : OrdAt CO H a o) : gKey H (.ref a) = [(o.time : Int), (o.number : Int)] := by
  obtain ⟨dx, h⟩ := h
  show (match H a with
    | some (.ins _ _ fs) => [iOf (fs.lookup ("time" : Str)), iOf (fs.lookup ("number" : Str))]
    | _ => [0]) = _
  rw [h]
  show [iOf ((ofs o).lookup ("time" : Str)), iOf ((ofs o).lookup ("number" : Str))] = _
  rw [ofs_time, ofs_number]
  rfl
/-- an order of the list, by its value -/
def OrdIn (CO : Addr) (H : Hp) (oas : List Addr) (o : Order) (v : V) : Prop := ∃ oa, v = .ref oa ∧ oa ∈ oas ∧ OrdAt CO H oa o
theorem ordIn_of {CO : Addr} {H : Hp} {oas : List Addr} : ∀ {l : List Order} {as : List Addr}, Paired (fun o oa => OrdAt CO H oa o) l as → (∀ a ∈ as, a ∈ oas) → Paired (OrdIn CO H oas) l (as.map V.ref)
  | _, _, .nil, _ => .nil
  | _, _, .cons r t, h => .cons ⟨_, rfl, h _ List.mem_cons_self, r⟩ (ordIn_of t fun a ha => h a (List.mem_cons_of_mem _ ha))
theorem paired_mem {α β : Type} {R : α → β → Prop} : ∀ {l : List α} {m : List β} {b : β}, Paired R l m → b ∈ m → ∃ a ∈ l, R a b
  | _, _, _, .nil, h => by cases h
  | _, _, _, .cons r t, h => by
    rcases List.mem_cons.mp h with rfl | h
    · exact ⟨_, List.mem_cons_self, r⟩
    · obtain ⟨a, h1, h2⟩ := paired_mem t h
      exact ⟨a, List.mem_cons_of_mem _ h1, h2⟩
theorem asc_of {CO : Addr} {H : Hp} {oas : List Addr} : ∀ {m : List Order} {ys : List V}, Paired (OrdIn CO H oas) m ys → ys.Pairwise (fun x y => LexLe (gKey H x) (gKey H y)) → Asc m
  | _, _, .nil, _ => .nil
  | o :: m, y :: ys, .cons r t, h => by
    obtain ⟨h1, h2⟩ := List.pairwise_cons.mp h
    refine List.pairwise_cons.mpr ⟨fun p hp => ?_, asc_of t h2⟩
    have : ∀ {m : List Order} {ys : List V}, Paired (OrdIn CO H oas) m ys → ∀ p ∈ m, ∃ v ∈ ys, OrdIn CO H oas p v := by
      intro m ys t
      induction t with
      | nil => intro p hp; cases hp
      | cons r t ih =>
        intro p hp
        rcases List.mem_cons.mp hp with rfl | hp
        · exact ⟨_, List.mem_cons_self, r⟩
        · obtain ⟨v, h1, h2⟩ := ih p hp
          exact ⟨v, List.mem_cons_of_mem _ h1, h2⟩
    obtain ⟨v, hv, oa, rfl, _, hoa⟩ := this t p hp
    obtain ⟨oa', rfl, _, hoa'⟩ := r
    have := h1 _ hv
    rw [gKey_of hoa, gKey_of hoa'] at this
    have := lexLe_pair this
    rw [before_iff]
    exact this
section
variable {P : Program} {w : World} {K : PySem.W.Frag} {mg : Str → Option Value} {base : Heap}
theorem scSO : FnScope ["orders", "steps", "order"] ["orders"] (defScope sStO) := ⟨rfl, rfl, rfl, by decide +kernel, rfl, by decide +kernel, by decide +kernel⟩
theorem ok_sto {f fT fI fA CT CO : Addr} {fd fdT fdI fdA : FuncData} (F : Fun K "steps_of" "steps_of" sStO f fd) (T : TxT K CT) (TM : TxM K mg CO) (hS : mg "sorted" = none)
    (GT : FnOk P w K mg base CX0 1 fT fdT ["told"] (spTTN K)) (bT : Binds K fdT ["told"] []) (mT : mg "time_then_number" = some (.ref fT))
    (MT : Mk K CT fI) (mS : mg "Step" = some (.ref CT)) (GI : FnOk P w K mg base CX0 1 fI fdI ["self", "order", "begun"] (spTInit CT)) (bI : Binds K fdI ["self", "order", "begun"] [])
    (GA : FnOk P w K mg base CX0 2 fA fdA ["steps", "time"] (spGAl CT CO)) (kA : PySem.W.keepIn K (.ref fA) = true) (bA : Binds K fdA ["steps", "time"] []) (mA : mg "gain_along" = some (.ref fA)) :
    FnOk P w K mg base CX0 4 f fd ["orders"] (spStO CT CO) := by
  refine F.ok scSO (fun vs H Q E h => ?_) (fun cdv A outer s H vs Q E hr h => ?_)
  · obtain ⟨a, oas, l, rfl, _⟩ := h
    rfl
  · obtain ⟨a, oas, l, rfl, ha, hp, hll, hf, q⟩ := h
    have hr2 : Room 2 _ := hr.mono (by decide)
    refine ⟨_, pss_cons (ps_set (i := 1) scSO.nd rfl (Or.inl rfl) (pe_lst pa_nil))
      (pss_cons (ps_for PassesOwn.never rfl (pi_list (pe_sortedK GT hr bT rfl mT rfl hS (pv 0))) (pg_name (i := 2) scSO.nd rfl (Or.inl rfl))
        (pss_one (ps_expr (pe_bm PySem.F.plainAttrs_list PySem.F.slot_list_append PySem.F.type_list_append mt_append (pv 1)
          (pa_cons (pe_make MT GI hr2 rfl mS bI .nil pass0 (pa_cons (pv 2) (pa_cons (pe_call GA hr2 rfl mA kA bA .nil pass0 (pa_cons (pv 1) (pa_cons (pe_fld (pv 2) rfl) pa_nil))) pa_nil))) pa_nil)))))
      (pss_one (ps_ret (pv 1)))), ?_⟩
    refine ⟨(by show 0 ≤ sizeLine; decide), fun st hst => ?_⟩
    have s1 : Same H (upd H st (.lst [])) := same_new hst
    have hin := ordIn_of hp fun b hb => hb
    refine ⟨_, rfl, a, _, gKey H, rfl, SqL.of (s1 _ _ ha), fun y hy => ?_, fun H1 ys p s1' perm srt hnp hys => ?_⟩
    · obtain ⟨o, ho, oa, rfl, _, hoa⟩ := paired_mem hin hy
      rw [gKey_of hoa]
      refine ⟨fun H' Q' sm hq => ?_, by simp⟩
      obtain ⟨dxo, hoa'⟩ := id hoa
      refine ⟨oa, CO, dxo, _, _, _, rfl, sm _ _ (s1 _ _ hoa'), TM.clO, TM.nTime, TM.nNumber, ofs_time o, ofs_number o, fun p hp => hq _ p (same_new hp) hp ?_⟩
      rw [upd_same, gKey_of hoa]
      rfl
    · obtain ⟨m, hm, hpm⟩ := paired_perm perm hin
      have hasc := asc_of hpm srt
      have hlen := Paired.length hpm
      have s2 : Same H H1 := s1.trans s1'
      have hst1 : H1 st = some (.lst []) := s1' _ _ upd_same
      have hpst : p ≠ st := fun z => by rw [z, upd_same] at hnp; cases hnp
      refine ⟨p, rfl, ⟨_, SqL.of hys⟩, for_list (K := K) (a := p) (xs := ys) (fun i σ H' => ∃ (v2 : Option V) (sas : List Addr), σ = [some (.ref a), some (.ref st), v2] ∧ Same H H' ∧ H' p = some (.lst ys) ∧ H' st = some (.lst (sas.map V.ref)) ∧ Paired (StepAt CT CO (fun b => H b = none ∨ b ∈ oas) H') (steps (m.take i)) sas)
        ⟨none, [], rfl, s2, hys, hst1, .nil⟩ ?_ ?_ ?_⟩
      · rintro i σ H' _ ⟨_, _, _, _, h1, _⟩
        exact SqL.of h1
      · rintro i y σ H' hy ⟨v2, sas, rfl, sm, hpy, hss, hpp⟩
        obtain ⟨o, ho, oa, rfl, hmem, hoa⟩ := paired_get hpm hy
        obtain ⟨dxo, hoa⟩ := id hoa
        have hoa' := sm _ _ hoa
        have hfl : ∀ s ∈ steps (m.take i), s.1.fade ≤ 480000 := fun s hs => by
          have : s.1 ∈ (steps (m.take i)).map Prod.fst := List.mem_map_of_mem hs
          rw [steps_fst] at this
          exact hf _ (hm.mem_iff.mp (List.mem_of_mem_take this))
        have hrise : Rise (m.take i ++ [o]) := by
          rw [← take_snoc ho]
          exact List.Pairwise.sublist (List.take_sublist _ _) hasc.rise
        have hil : i < m.length := (List.getElem?_eq_some_iff.mp ho).1
        refine ⟨_, rfl, .inl ⟨rfl, _, SqL.of hss⟩, _, rfl, _, rfl, _, rfl, oa, CO, dxo, _, _, rfl, hoa', TM.clO, TM.nTime, ofs_time o, st, _, sas, steps (m.take i), o.time, rfl, hss, hpp, hfl, fun x dx nx ndx nex => ?_⟩
        refine ⟨x, dx, oa, along (steps (m.take i)) o.time, rfl, upd_same, fun H2 hx k2 => ⟨rfl, ?_⟩⟩
        have s3 : Same H' H2 := Same.made nx ndx k2
        have hxst : x ≠ st := fun z => by rw [z, hss] at nx; cases nx
        have hxH : H x = none := sm.free nx
        refine ⟨st, _, _, rfl, rfl, s3 _ _ hss, ?_, ?_⟩
        · have h1 := Paired.length hpp
          rw [steps_length, List.length_take] at h1
          rw [List.length_map]
          have h2 := hm.length_eq
          exact line_lt (by omega)
        · refine ⟨_, sas ++ [x], rfl, fun b u hb => ?_, ?_, ?_, ?_⟩
          · rw [upd_ne (ne_of_none hb hst)]
            exact s3 _ _ (sm _ _ hb)
          · rw [upd_ne hpst]
            exact s3 _ _ hpy
          · rw [upd_same, List.map_append]
            rfl
          · rw [take_snoc ho, steps_snoc, ← along_begun hrise]
            have fr : ∀ b u, (H b = none ∨ b ∈ oas) → H' b = some u → b ≠ st → upd H2 st (.lst (sas.map V.ref ++ [.ref x])) b = some u := fun b u _ hb hne => by
              rw [upd_ne hne]
              exact s3 _ _ hb
            have h1 : StepAt CT CO (fun b => H b = none ∨ b ∈ oas) (upd H2 st (.lst (sas.map V.ref ++ [.ref x]))) (o, along (steps (m.take i)) o.time) x :=
              ⟨dx, oa, by rw [upd_ne hxst]; exact hx, ⟨dxo, by rw [upd_ne (ne_of_none hoa hst)]; exact s3 _ _ hoa'⟩, .inl hxH, .inr hmem⟩
            refine paired_snoc h1 (paired_mono (fun s sa hsa => ?_) hpp)
            obtain ⟨dx', oa', g1, ⟨dxo', g2⟩, g3, g4⟩ := hsa
            exact ⟨dx', oa', fr _ _ g3 g1 (ne_of g1 hss (by intro z; cases z)), ⟨dxo', fr _ _ g4 g2 (ne_of g2 hss (by intro z; cases z))⟩, g3, g4⟩
      · rintro σ H' ⟨v2, sas, rfl, sm, hpy, hss, hpp⟩
        rw [← hlen, List.take_length] at hpp
        exact ⟨_, rfl, q H' st sas m hm hasc sm hst hss hpp⟩
end
end Sb

set_option Elab.async false
set_option maxRecDepth 100000
set_option maxHeartbeats 4000000
/-! A board: on the heap; begin, __init__, sb_start. -/
namespace Sb
open PySem PySem.Spec PyProof.Rows L2
open Km345 (Board Order Seal)
abbrev sBInit : Stmt := inClass (top 41) 0
abbrev sBBegin : Stmt := inClass (top 41) 1
abbrev sBStart : Stmt := inClass (top 41) 2
abbrev sBHeard : Stmt := inClass (top 41) 3
abbrev sBHSeal : Stmt := inClass (top 41) 4
abbrev sBHOrd : Stmt := inClass (top 41) 5
abbrev sBLacks : Stmt := inClass (top 41) 6
abbrev sBWhole : Stmt := inClass (top 41) 7
abbrev sBGain : Stmt := inClass (top 41) 8
abbrev sBGAt : Stmt := inClass (top 41) 9
abbrev sBMix : Stmt := inClass (top 41) 10
abbrev sBVals : Stmt := inClass (top 41) 11
/-! ### a board's attributes -/
def bfs (ch bu : Nat) (sl nd gd : Addr) : List (Str × V) := [("channels", .int (ch : Int)), ("buses", .int (bu : Int)), ("seal", .ref sl), ("numbers", .ref nd), ("gains", .ref gd)]
section
variable {ch bu : Nat} {sl nd gd : Addr}
theorem bfs_channels : (bfs ch bu sl nd gd).lookup ("channels" : Str) = some (.int (ch : Int)) := lk_here
theorem bfs_buses : (bfs ch bu sl nd gd).lookup ("buses" : Str) = some (.int (bu : Int)) := lk_next (by decide +kernel) lk_here
theorem bfs_seal : (bfs ch bu sl nd gd).lookup ("seal" : Str) = some (.ref sl) := lk_next (by decide +kernel) (lk_next (by decide +kernel) lk_here)
theorem bfs_numbers : (bfs ch bu sl nd gd).lookup ("numbers" : Str) = some (.ref nd) := lk_next (by decide +kernel) (lk_next (by decide +kernel) (lk_next (by decide +kernel) lk_here))
theorem bfs_gains : (bfs ch bu sl nd gd).lookup ("gains" : Str) = some (.ref gd) := lk_next (by decide +kernel) (lk_next (by decide +kernel) (lk_next (by decide +kernel) (lk_next (by decide +kernel) lk_here)))
theorem bfs_no {m : Str} (h1 : (m == ("channels" : Str)) = false) (h2 : (m == ("buses" : Str)) = false) (h3 : (m == ("seal" : Str)) = false) (h4 : (m == ("numbers" : Str)) = false) (h5 : (m == ("gains" : Str)) = false) : (bfs ch bu sl nd gd).lookup m = none :=
  lk_next h1 (lk_next h2 (lk_next h3 (lk_next h4 (lk_next h5 rfl))))
theorem bfs_put_seal (x : Addr) : putF "seal" (.ref x) (bfs ch bu sl nd gd) = bfs ch bu x nd gd := put_next (by decide +kernel) (put_next (by decide +kernel) put_here)
theorem bfs_len : (bfs ch bu sl nd gd).length = 5 := rfl
end
def FreshB (fs : List (Str × V)) : Prop := fs = [] ∨ ∃ ch bu sl nd gd, fs = bfs ch bu sl nd gd
theorem FreshB.len {fs : List (Str × V)} (h : FreshB fs) : fs.length ≤ 5 := by
  rcases h with rfl | ⟨ch, bu, sl, nd, gd, rfl⟩
  · exact Nat.zero_le _
  · exact Nat.le_refl _
theorem put5 {fs : List (Str × V)} (h : FreshB fs) (ch bu : Nat) (sl nd gd : Addr) :
    putF "gains" (.ref gd) (putF "numbers" (.ref nd) (putF "seal" (.ref sl) (putF "buses" (.int (bu : Int)) (putF "channels" (.int (ch : Int)) fs)))) = bfs ch bu sl nd gd := by
  have n {a b : Str} (h : (a == b) = false) : ¬ a = b := fun e => by rw [e, beq_self_eq_true] at h; cases h
  rcases h with rfl | ⟨ch', bu', sl', nd', gd', rfl⟩
  · rw [put_nil, put_next (n (by decide +kernel)) put_nil, put_next (n (by decide +kernel)) (put_next (n (by decide +kernel)) put_nil),
      put_next (n (by decide +kernel)) (put_next (n (by decide +kernel)) (put_next (n (by decide +kernel)) put_nil)),
      put_next (n (by decide +kernel)) (put_next (n (by decide +kernel)) (put_next (n (by decide +kernel)) (put_next (n (by decide +kernel)) put_nil)))]
    rfl
  · unfold bfs
    rw [put_here, put_next (n (by decide +kernel)) put_here, put_next (n (by decide +kernel)) (put_next (n (by decide +kernel)) put_here),
      put_next (n (by decide +kernel)) (put_next (n (by decide +kernel)) (put_next (n (by decide +kernel)) put_here)),
      put_next (n (by decide +kernel)) (put_next (n (by decide +kernel)) (put_next (n (by decide +kernel)) (put_next (n (by decide +kernel)) put_here)))]
/-! ### what holds of every board that is met -/
structure BOk (b : Board) : Prop where
  ch : b.channels ≤ 32
  bu : b.buses ≤ 8
  apart : Apart b.orders
  good : ∀ o ∈ b.orders, o.good = true
  many : b.heardSeal.many ≤ 4096
theorem board0_ok {c b : Nat} (hc : c ≤ 32) (hb : b ≤ 8) : BOk (Km345.board0 c b) := ⟨hc, hb, .nil, (fun o ho => by cases ho), Nat.zero_le _⟩
theorem BOk.count {b : Board} (h : BOk b) : b.orders.length ≤ 4096 := by
  have h1 : (b.orders.map Order.number).Nodup := by
    rw [List.Nodup, List.pairwise_map]
    exact h.apart
  have h2 := nodup_bound 4096 h1 fun x hx => by
    obtain ⟨o, ho, rfl⟩ := List.mem_map.mp hx
    exact ((good_iff o).mp (h.good o ho)).2.2.1
  rw [List.length_map] at h2
  exact h2
/-! ### a board on the heap -/
/-- what stands under a gain's place -/
def LaneAt (CT CO : Addr) (H : Hp) (R : Addr → Prop) (l : List Order) : Option V → Prop
  | none => l = []
  | some v => ∃ la sas, v = .ref la ∧ H la = some (.lst (sas.map V.ref)) ∧ Paired (StepAt CT CO R H) (steps l) sas ∧ R la
theorem LaneAt.mono {CT CO : Addr} {R R' : Addr → Prop} {H H' : Hp} {l : List Order} {v : Option V} (h : LaneAt CT CO H R l v) (hr : ∀ b, R b → R' b) (k : ∀ b u, R b → H b = some u → H' b = some u) : LaneAt CT CO H' R' l v := by
  cases v with
  | none => exact h
  | some v =>
    obtain ⟨la, sas, h1, h2, h3, h4⟩ := h
    exact ⟨la, sas, h1, k _ _ h4 h2, paired_mono (fun s a q => q.mono hr k) h3, hr _ h4⟩
/-- the classes -/
structure Cl where
  B : Addr
  O : Addr
  S : Addr
  T : Addr
structure BoardBody (C : Cl) (H : Hp) (p : Addr) (b : Board) (R : Addr → Prop) (dx sl nd gd : Addr) (kvs : List (Key × V)) (gvs : List (List Key × V)) : Prop where
  hp : H p = some (.ins C.B dx (bfs b.channels b.buses sl nd gd))
  hsl : SealAt C.S H sl b.heardSeal
  hnd : H nd = some (.dK kvs)
  hgd : H gd = some (.dT gvs)
  nk : ∀ n : Nat, (valV kvs (Sum.inl (n : Int))).isSome = b.knows n
  nl : kvs.length ≤ b.orders.length
  gl : gvs.length ≤ b.orders.length
  lanes : ∀ c u : Nat, LaneAt C.T C.O H R (lane b.orders c u) (valV gvs [Sum.inl (c : Int), Sum.inl (u : Int)])
  rp : R p
  rsl : R sl
  rnd : R nd
  rgd : R gd
  all : ∀ x, R x → ∃ o, H x = some o
def BoardAt (C : Cl) (H : Hp) (p : Addr) (b : Board) (R : Addr → Prop) : Prop := ∃ dx sl nd gd kvs gvs, BoardBody C H p b R dx sl nd gd kvs gvs
section
variable {C : Cl} {H H' : Hp} {p : Addr} {b : Board} {R : Addr → Prop} {dx sl nd gd : Addr} {kvs : List (Key × V)} {gvs : List (List Key × V)}
theorem BoardBody.frame (B : BoardBody C H p b R dx sl nd gd kvs gvs) (k : ∀ x, R x → H' x = H x) : BoardBody C H' p b R dx sl nd gd kvs gvs :=
  { B with
    hp := by rw [k _ B.rp]; exact B.hp
    hsl := by
      obtain ⟨dxs, e⟩ := B.hsl
      exact ⟨dxs, by rw [k _ B.rsl]; exact e⟩
    hnd := by rw [k _ B.rnd]; exact B.hnd
    hgd := by rw [k _ B.rgd]; exact B.hgd
    lanes := fun c u => (B.lanes c u).mono (fun _ h => h) fun x v hx e => by rw [k x hx]; exact e
    all := fun x hx => by rw [k x hx]; exact B.all x hx }
theorem BoardAt.frame (h : BoardAt C H p b R) (k : ∀ x, R x → H' x = H x) : BoardAt C H' p b R := by
  obtain ⟨dx, sl, nd, gd, kvs, gvs, B⟩ := h
  exact ⟨dx, sl, nd, gd, kvs, gvs, B.frame k⟩
theorem BoardAt.alloc (h : BoardAt C H p b R) {x : Addr} (hx : R x) : ∃ o, H x = some o := by
  obtain ⟨dx, sl, nd, gd, kvs, gvs, B⟩ := h
  exact B.all x hx
theorem BoardAt.not (h : BoardAt C H p b R) {x : Addr} (hx : H x = none) : ¬ R x := fun r => by
  obtain ⟨o, e⟩ := h.alloc r
  rw [e] at hx
  cases hx
theorem BoardAt.new (h : BoardAt C H p b R) {x : Addr} {o : HO} (hx : H x = none) : BoardAt C (upd H x o) p b R := h.frame fun y hy => upd_ne fun e => h.not hx (e ▸ hy)
theorem BoardBody.same (B : BoardBody C H p b R dx sl nd gd kvs gvs) (s : Same H H') : BoardBody C H' p b R dx sl nd gd kvs gvs := B.frame fun x hx => by
  obtain ⟨o, e⟩ := B.all x hx
  rw [e]
  exact s x o e
theorem BoardAt.same (h : BoardAt C H p b R) (s : Same H H') : BoardAt C H' p b R := h.frame fun x hx => by
  obtain ⟨o, e⟩ := h.alloc hx
  rw [e]
  exact s x o e
theorem BoardAt.fs (h : BoardAt C H p b R) : ∃ dx fs, H p = some (.ins C.B dx fs) ∧ FreshB fs := by
  obtain ⟨dx, sl, nd, gd, kvs, gvs, B⟩ := h
  exact ⟨dx, _, B.hp, .inr ⟨_, _, _, _, _, rfl⟩⟩
theorem BoardAt.rp (h : BoardAt C H p b R) : R p := by
  obtain ⟨dx, sl, nd, gd, kvs, gvs, B⟩ := h
  exact B.rp
end
/-- a board's call answers -/
def RetB (C : Cl) (H : Hp) (p : Addr) (R : Addr → Prop) (b' : Board) (ans : List Int) (Q : VK) : Prop :=
  ∀ (H' : Hp) (R' : Addr → Prop) (r : Addr), BoardAt C H' p b' R' → (∀ x, R' x → R x ∨ H x = none) → Kept H H' R → H' r = some (.lst (ans.map V.int)) → H r = none → ¬ R' r → Q (.ref r) H'
theorem RetB.refuse {C : Cl} {H : Hp} {p : Addr} {R : Addr → Prop} {b : Board} {z : Int} {Q : VK} (k : RetB C H p R b [z] Q) (D : BoardAt C H p b R) {r : Addr} (hr : H r = none) : Q (.ref r) (upd H r (.lst [.int z])) :=
  k _ R r (D.new hr) (fun x hx => .inl hx) (fun x o e _ => same_new hr x o e) upd_same hr (D.not hr)
/-- the same behind what has left all as it was -/
theorem RetB.still {C : Cl} {H H1 : Hp} {p : Addr} {R : Addr → Prop} {b : Board} {ans : List Int} {Q : VK} (k : RetB C H p R b ans Q) (D : BoardAt C H p b R) (s : Same H H1) {r : Addr} (hr : H1 r = none) : Q (.ref r) (upd H1 r (.lst (ans.map V.int))) :=
  k _ R r ((D.same s).new hr) (fun x hx => .inl hx) (fun x o e _ => same_new hr x o (s x o e)) upd_same (s.free hr) ((D.same s).not hr)
structure TxBd (K : PySem.W.Frag) (mg : Str → Option Value) (C : Cl) : Prop where
  cl : Cls K C.B
  nChannels : NoAttr K C.B "channels"
  nBuses : NoAttr K C.B "buses"
  nSeal : NoAttr K C.B "seal"
  nNumbers : NoAttr K C.B "numbers"
  nGains : NoAttr K C.B "gains"
  len : mg "len" = none
  max : mg "max" = none
  min : mg "min" = none
  isi : mg "isinstance" = none
  told : ∃ t, mg "NOT_AS_TOLD" = some (.int (-22) t)
  lack : ∃ t, mg "NONE_LACKS" = some (.int (-11) t)
  right : ∃ t, mg "NOT_RIGHT" = some (.int (-71) t)
  tend : ∃ t, mg "TIME_END" = some (.int 281474976710656 t)
  unit : ∃ t, mg "UNIT" = some (.int 65536 t)
  block : ∃ t, mg "BLOCK" = some (.int 48 t)
  outs : ∃ t, mg "OUT_SIZE" = some (.int 384 t)
  low : ∃ t, mg "LOWEST" = some (.int (-8388608) t)
  high : ∃ t, mg "HIGHEST" = some (.int 8388607 t)
  whole : ∃ t, mg "NOT_WHOLE" = some (.int 1000 t)
/-! ### promises -/
def spBBegin (C : Cl) : Sp := fun vs H Q _ => ∃ (p dx : Addr) (fs : List (Str × V)) (c b : Nat), vs = [.ref p, .int (c : Int), .int (b : Int)] ∧ H p = some (.ins C.B dx fs) ∧ FreshB fs ∧
  ∀ (H' : Hp) (R' : Addr → Prop), BoardAt C H' p (Km345.board0 c b) R' → (∀ x, R' x → x = p ∨ H x = none) → (∀ x o, H x = some o → x ≠ p → H' x = some o) → Q .non H'
def spBInit (C : Cl) : Sp := fun vs H Q _ => ∃ (p dx : Addr), vs = [.ref p] ∧ H p = some (.ins C.B dx []) ∧
  ∀ (H' : Hp) (R' : Addr → Prop), BoardAt C H' p (Km345.board0 0 0) R' → (∀ x, R' x → x = p ∨ H x = none) → (∀ x o, H x = some o → x ≠ p → H' x = some o) → Q .non H'
def spBStart (C : Cl) : Sp := fun vs H Q _ => ∃ (p : Addr) (b : Board) (R : Addr → Prop) (c n : Nat), vs = [.ref p, .int (c : Int), .int (n : Int)] ∧ BoardAt C H p b R ∧
  RetB C H p R (Km345.bDoes b (.bStart c n)).1 (Km345Neutral.told (Km345.bDoes b (.bStart c n)).2) Q
theorem bStart_22 {b : Board} {c n : Nat} (h : ¬ Sized c n) : Km345.bDoes b (.bStart c n) = (b, Km345.only (-22)) := if_pos ((okSize_iff c n).mpr h)
theorem bStart_ok {b : Board} {c n : Nat} (h : Sized c n) : Km345.bDoes b (.bStart c n) = (Km345.board0 c n, Km345.only 0) := if_neg (fun e => (okSize_iff c n).mp e h)
section
variable {P : Program} {w : World} {K : PySem.W.Frag} {mg : Str → Option Value} {base : Heap} {C : Cl}
theorem scBB : FnScope ["self", "channels", "buses"] ["self", "channels", "buses"] (defScope sBBegin) := ⟨rfl, rfl, rfl, by decide +kernel, rfl, by decide +kernel, by decide +kernel⟩
theorem ok_bbegin {f fS : Addr} {fd fdS : FuncData} (F : Fun K "begin" "Board.begin" sBBegin f fd) (T : TxBd K mg C) (MS : Mk K C.S fS) (mS : mg "Seal" = some (.ref C.S)) (GS : FnOk P w K mg base CX0 1 fS fdS ["self", "number", "time"] (spSInit C.S)) (bS : Binds K fdS ["self", "number", "time"] []) :
    FnOk P w K mg base CX0 3 f fd ["self", "channels", "buses"] (spBBegin C) := by
  refine F.ok scBB (fun vs H Q E h => ?_) (fun cdv A outer s H vs Q E hr h => ?_)
  · obtain ⟨p, dx, fs, c, b, rfl, _⟩ := h
    rfl
  · obtain ⟨p, dx, fs, c, b, rfl, hp, hfs, k⟩ := h
    have hl := hfs.len
    refine ⟨_, pss_cons (ps_fld (pv 0) (pv 1) rfl) (pss_cons (ps_fld (pv 0) (pv 2) rfl) (pss_cons (ps_fld (pv 0) (pe_make MS GS hr rfl mS bS .nil pass0 (pa_cons pe_int (pa_cons pe_int pa_nil))) rfl)
      (pss_cons (ps_fld (pv 0) pe_dnewK rfl) (pss_one (ps_fld (pv 0) pe_dnewT rfl))))), ?_⟩
    have pl : ∀ {n : Nat} {g : Str} {v : V} {gs : List (Str × V)}, gs.length ≤ n → (putF g v gs).length ≤ n + 1 := fun h => Nat.le_trans (length_putF _ _ _) (Nat.succ_le_succ h)
    refine ⟨_, rfl, _, rfl, p, C.B, dx, _, rfl, hp, T.cl, T.nChannels, by omega, ?_⟩
    refine ⟨_, rfl, _, rfl, p, C.B, dx, _, rfl, upd_same, T.cl, T.nBuses, Nat.lt_of_le_of_lt (pl hl) (by decide), ?_⟩
    rw [upd_upd]
    generalize e1 : upd H p (.ins C.B dx (putF "buses" (.int (b : Int)) (putF "channels" (.int (c : Int)) fs))) = H1
    have p1 : H1 p = some (.ins C.B dx (putF "buses" (.int (b : Int)) (putF "channels" (.int (c : Int)) fs))) := by rw [← e1]; exact upd_same
    have f1 : ∀ x o, H x = some o → x ≠ p → H1 x = some o := fun x o e nx => by rw [← e1, upd_ne nx]; exact e
    -- seal
    refine fun sl dxs nsl ndxs nesl => ⟨sl, dxs, ⟨0, 0⟩, rfl, upd_same, fun H2 sat k2 => ⟨rfl, ?_⟩⟩
    have s2 : Same H1 H2 := Same.made nsl ndxs k2
    refine ⟨_, rfl, p, C.B, dx, _, rfl, s2 _ _ p1, T.cl, T.nSeal, Nat.lt_of_le_of_lt (pl (pl hl)) (by decide), ?_⟩
    have nslp : sl ≠ p := fun z => by rw [z, p1] at nsl; cases nsl
    have gsl : H sl = none := by
      cases e : H sl with
      | none => rfl
      | some u => rw [f1 sl u e nslp] at nsl; cases nsl
    generalize e3 : upd H2 p (.ins C.B dx (putF "seal" (.ref sl) (putF "buses" (.int (b : Int)) (putF "channels" (.int (c : Int)) fs)))) = H3
    have p3 : H3 p = some (.ins C.B dx (putF "seal" (.ref sl) (putF "buses" (.int (b : Int)) (putF "channels" (.int (c : Int)) fs)))) := by rw [← e3]; exact upd_same
    have f3 : ∀ x o, H2 x = some o → x ≠ p → H3 x = some o := fun x o e nx => by rw [← e3, upd_ne nx]; exact e
    have F3 : ∀ x o, H x = some o → x ≠ p → H3 x = some o := fun x o e nx => f3 x o (s2 _ _ (f1 x o e nx)) nx
    -- numbers
    intro nd nnd
    refine ⟨_, rfl, p, C.B, dx, _, rfl, (upd_ne (ne_of_none p3 nnd)).trans p3, T.cl, T.nNumbers, Nat.lt_of_le_of_lt (pl (pl (pl hl))) (by decide), ?_⟩
    obtain ⟨p4, a4, f4, n4, g4⟩ := bg_step (H := H) (o := .dK []) (o' := .ins C.B dx (putF "numbers" (.ref nd) (putF "seal" (.ref sl) (putF "buses" (.int (b : Int)) (putF "channels" (.int (c : Int)) fs))))) F3 p3 nnd
    generalize e4 : upd (upd H3 nd (.dK [])) p (.ins C.B dx (putF "numbers" (.ref nd) (putF "seal" (.ref sl) (putF "buses" (.int (b : Int)) (putF "channels" (.int (c : Int)) fs))))) = H4 at p4 a4 f4
    have F4 := fr_trans F3 f4
    -- gains
    intro gd ngd
    refine ⟨_, rfl, p, C.B, dx, _, rfl, (upd_ne (ne_of_none p4 ngd)).trans p4, T.cl, T.nGains, Nat.lt_of_le_of_lt (pl (pl (pl (pl hl)))) (by decide), ?_⟩
    obtain ⟨p5, a5, f5, n5, g5⟩ := bg_step (H := H) (o := .dT []) (o' := .ins C.B dx (putF "gains" (.ref gd) (putF "numbers" (.ref nd) (putF "seal" (.ref sl) (putF "buses" (.int (b : Int)) (putF "channels" (.int (c : Int)) fs)))))) F4 p4 ngd
    generalize e5 : upd (upd H4 gd (.dT [])) p (.ins C.B dx (putF "gains" (.ref gd) (putF "numbers" (.ref nd) (putF "seal" (.ref sl) (putF "buses" (.int (b : Int)) (putF "channels" (.int (c : Int)) fs)))))) = H5 at p5 a5 f5
    have F5 := fr_trans F4 f5
    rw [put5 hfs] at p5
    obtain ⟨dxs', hs⟩ := sat
    have hs5 := f5 _ _ (f4 _ _ (f3 _ _ hs nslp) nslp) nslp
    have hn5 := f5 _ _ a4 n4
    refine k H5 (fun x => x = p ∨ x = sl ∨ x = nd ∨ x = gd) ⟨dx, sl, nd, gd, [], [], ?_⟩ ?_ F5
    · refine ⟨p5, ⟨dxs', hs5⟩, hn5, a5, fun n => rfl, Nat.le_refl _, Nat.le_refl _, fun c u => rfl, .inl rfl, .inr (.inl rfl), .inr (.inr (.inl rfl)), .inr (.inr (.inr rfl)), ?_⟩
      rintro x (rfl | rfl | rfl | rfl)
      · exact ⟨_, p5⟩
      · exact ⟨_, hs5⟩
      · exact ⟨_, hn5⟩
      · exact ⟨_, a5⟩
    · rintro x (rfl | rfl | rfl | rfl)
      · exact .inl rfl
      · exact .inr gsl
      · exact .inr g4
      · exact .inr g5
theorem scBI : FnScope ["self"] ["self"] (defScope sBInit) := ⟨rfl, rfl, rfl, by decide +kernel, rfl, by decide +kernel, by decide +kernel⟩
theorem ok_binit {f fB : Addr} {fd fdB : FuncData} (F : Fun K "__init__" "Board.__init__" sBInit f fd) (T : TxBd K mg C) (GB : FnOk P w K mg base CX0 3 fB fdB ["self", "channels", "buses"] (spBBegin C)) (bB : Binds K fdB ["self", "channels", "buses"] []) (mB : Meth K C.B "begin" fB) :
    FnOk P w K mg base CX0 4 f fd ["self"] (spBInit C) := by
  refine F.ok scBI (fun vs H Q E h => ?_) (fun cdv A outer s H vs Q E hr h => ?_)
  · obtain ⟨p, dx, rfl, _⟩ := h
    rfl
  · obtain ⟨p, dx, rfl, hp, k⟩ := h
    refine ⟨_, pss_one (ps_expr (pe_meth (pv 0) T.cl mB GB hr bB .nil pass0 (pa_cons pe_int (pa_cons pe_int pa_nil)))), ?_⟩
    exact ⟨_, rfl, p, dx, _, rfl, hp, rfl, p, dx, _, 0, 0, rfl, hp, .inl rfl, fun H' R' a b c => k H' R' a b c⟩
theorem scBSt : FnScope ["self", "channels", "buses"] ["self", "channels", "buses"] (defScope sBStart) := ⟨rfl, rfl, rfl, by decide +kernel, rfl, by decide +kernel, by decide +kernel⟩
theorem ok_bstart {f fB fZ : Addr} {fd fdB fdZ : FuncData} (F : Fun K "sb_start" "Board.sb_start" sBStart f fd) (T : TxBd K mg C) (GB : FnOk P w K mg base CX0 3 fB fdB ["self", "channels", "buses"] (spBBegin C)) (bB : Binds K fdB ["self", "channels", "buses"] []) (mB : Meth K C.B "begin" fB)
    (GZ : FnOk P w K mg base CX0 1 fZ fdZ ["channels", "buses"] spSizes) (kZ : PySem.W.keepIn K (.ref fZ) = true) (bZ : Binds K fdZ ["channels", "buses"] []) (mZ : mg "sizes_as_told" = some (.ref fZ)) :
    FnOk P w K mg base CX0 4 f fd ["self", "channels", "buses"] (spBStart C) := by
  obtain ⟨t3, h22⟩ := T.told
  refine F.ok scBSt (fun vs H Q E h => ?_) (fun cdv A outer s H vs Q E hr h => ?_)
  · obtain ⟨p, d, R, c, b, rfl, _⟩ := h
    rfl
  · obtain ⟨p, d, R, c, b, rfl, D, k⟩ := h
    have hr1 : Room 1 _ := hr.mono (by decide)
    refine ⟨_, pss_cons (ps_if (pt_not (pt_val (pe_call GZ hr1 rfl mZ kZ bZ .nil pass0 (pa_cons (pv 1) (pa_cons (pv 2) pa_nil))))) (pss_one (ps_ret (pe_lst (pa_cons (pe_gint h22) pa_nil)))) pss_nil)
      (pss_cons (ps_expr (pe_meth (pv 0) T.cl mB GB hr bB .nil pass0 (pa_cons (pv 1) (pa_cons (pv 2) pa_nil))))
      (pss_one (ps_ret (pe_lst (pa_cons pe_int pa_nil))))), ?_⟩
    obtain ⟨dx, fs, hp, hfs⟩ := D.fs
    have Rp := D.rp
    refine ⟨_, rfl, _, rfl, c, b, rfl, _, rfl, iteN (fun a => ?_) (fun a => ?_)⟩
    · rw [bStart_22 a] at k
      exact ⟨by decide, fun r hr => k.refuse D hr⟩
    rw [bStart_ok a] at k
    have hno : fs.lookup ("begin" : Str) = none := by
      rcases hfs with rfl | ⟨_, _, _, _, _, rfl⟩
      · rfl
      · exact bfs_no (by decide +kernel) (by decide +kernel) (by decide +kernel) (by decide +kernel) (by decide +kernel)
    refine ⟨_, rfl, p, dx, fs, rfl, hp, hno, _, rfl, _, rfl, p, dx, fs, c, b, rfl, hp, hfs, fun H' R' D' r' f' => ?_⟩
    refine ⟨(by show 1 ≤ sizeLine; decide), fun r nr => ?_⟩
    obtain ⟨dx', fs', hp', _⟩ := D'.fs
    have nr0 : H r = none := by
      cases e : H r with
      | none => rfl
      | some o =>
        by_cases z : r = p
        · rw [z, hp'] at nr; cases nr
        · rw [f' r o e z] at nr; cases nr
    refine k _ R' r (D'.new nr) (fun x hx => ?_) (fun x o e nx => ?_) upd_same nr0 (D'.not nr)
    · rcases r' x hx with rfl | h
      · exact .inl Rp
      · exact .inr h
    · exact same_new nr x o (f' x o e (fun z => nx (z ▸ Rp)))
end
end Sb

set_option Elab.async false
set_option maxRecDepth 100000
set_option maxHeartbeats 4000000
/-! A board that is asked: sb_lacks, is_whole, gain_at, sb_gain. -/
namespace Sb
open PySem PySem.Spec PyProof.Rows L2
open Km345 (Board Order Seal)
/-! ### what is lacking -/
def lackI (b : Board) : Int := match b.lacks with
  | some n => (n : Int)
  | none => -11
theorem lacks_first {b : Board} {i : Nat} (hi : i < b.heardSeal.many) (h : ∀ j, j < i → b.knows j = true) (hn : b.knows i = false) : b.lacks = some i := by
  unfold Board.lacks
  rw [List.find?_range_eq_some]
  refine ⟨by rw [hn]; rfl, List.mem_range.mpr hi, fun j hj => ?_⟩
  rw [h j hj]
  rfl
theorem lacks_none {b : Board} (h : ∀ j, j < b.heardSeal.many → b.knows j = true) : b.lacks = none := by
  unfold Board.lacks
  rw [List.find?_eq_none]
  intro j hj
  rw [h j (List.mem_range.mp hj)]
  decide
theorem lackI_first {b : Board} {i : Nat} (hi : i < b.heardSeal.many) (h : ∀ j, j < i → b.knows j = true) (hn : b.knows i = false) : lackI b = (i : Int) := by
  unfold lackI
  rw [lacks_first hi h hn]
theorem lackI_none {b : Board} (h : ∀ j, j < b.heardSeal.many → b.knows j = true) : lackI b = -11 := by
  unfold lackI
  rw [lacks_none h]
theorem lackI_iff (b : Board) : lackI b = -11 ↔ b.lacks.isNone = true := by
  unfold lackI
  cases e : b.lacks with
  | none => simp
  | some n => simp
theorem whole_eq2 (b : Board) (t : Nat) : b.whole t = (decide (t ≤ b.heardSeal.time) && decide (lackI b = -11)) := by
  unfold Board.whole
  congr 1
  cases h : b.lacks.isNone with
  | true => exact (decide_eq_true ((lackI_iff b).mpr h)).symm
  | false => exact (decide_eq_false (fun z => by rw [(lackI_iff b).mp z] at h; cases h)).symm
/-! ### promises -/
def spLacks (C : Cl) : Sp := fun vs H Q _ => ∃ (p : Addr) (b : Board) (R : Addr → Prop), vs = [.ref p] ∧ BOk b ∧ BoardAt C H p b R ∧ ∀ r, H r = none → Q (.ref r) (upd H r (.lst [.int (lackI b)]))
def spWhole (C : Cl) : Sp := fun vs H Q _ => ∃ (p : Addr) (b : Board) (R : Addr → Prop) (t : Nat), vs = [.ref p, .int (t : Int)] ∧ BOk b ∧ BoardAt C H p b R ∧ ∀ H', Same H H' → Q (.bl (b.whole t)) H'
def spGAt (C : Cl) : Sp := fun vs H Q _ => ∃ (p : Addr) (b : Board) (R : Addr → Prop) (c u t : Nat), vs = [.ref p, .int (c : Int), .int (u : Int), .int (t : Int)] ∧ BOk b ∧ BoardAt C H p b R ∧ ∀ H', Same H H' → Q (.int (Km345.gainAt b.orders c u t)) H'
def spGain (C : Cl) : Sp := fun vs H Q _ => ∃ (p : Addr) (b : Board) (R : Addr → Prop) (c u t : Nat), vs = [.ref p, .int (c : Int), .int (u : Int), .int (t : Int)] ∧ BOk b ∧ BoardAt C H p b R ∧
  RetB C H p R b (Km345Neutral.told (Km345.bDoes b (.bGain c u t)).2) Q
theorem bGain_22 {b : Board} {c u t : Nat} (h : b.channels ≤ c ∨ b.buses ≤ u ∨ 281474976710656 ≤ t) : Km345Neutral.told (Km345.bDoes b (.bGain c u t)).2 = [-22] := by
  have e : Km345.bDoes b (.bGain c u t) = (b, Km345.only (-22)) := congrArg (Prod.mk b) (if_pos h)
  rw [e]
  rfl
theorem bGain_ok {b : Board} {c u t : Nat} (h : ¬ (b.channels ≤ c ∨ b.buses ≤ u ∨ 281474976710656 ≤ t)) : Km345Neutral.told (Km345.bDoes b (.bGain c u t)).2 = [Km345.gainAt b.orders c u t] := by
  have e : Km345.bDoes b (.bGain c u t) = (b, Km345.only (Km345.gainAt b.orders c u t)) := congrArg (Prod.mk b) (if_neg h)
  rw [e]
  rfl
section
variable {P : Program} {w : World} {K : PySem.W.Frag} {mg : Str → Option Value} {base : Heap} {C : Cl}
/-! ### sb_lacks -/
theorem scLk : FnScope ["self", "number"] ["self"] (defScope sBLacks) := ⟨rfl, rfl, rfl, by decide +kernel, rfl, by decide +kernel, by decide +kernel⟩
theorem ok_lacks {f : Addr} {fd : FuncData} (F : Fun K "sb_lacks" "Board.sb_lacks" sBLacks f fd) (T : TxBd K mg C) (TS : TxS K C.S) (hR : mg "range" = none) : FnOk P w K mg base CX0 1 f fd ["self"] (spLacks C) := by
  obtain ⟨t1, h11⟩ := T.lack
  refine F.ok scLk (fun vs H Q E h => ?_) (fun cdv A outer s H vs Q E hr h => ?_)
  · obtain ⟨p, b, R, rfl, _⟩ := h
    rfl
  · obtain ⟨p, b, R, rfl, ok, ⟨dx, sl, nd, gd, kvs, gvs, B⟩, q⟩ := h
    obtain ⟨dxs, hs⟩ := B.hsl
    have hm := ok.many
    refine ⟨_, pss_cons (ps_for PassesOwn.never rfl (pi_range1 rfl hR (pa_cons (pe_fld (pe_fld (pv 0) rfl) rfl) pa_nil)) (pg_name (i := 1) scLk.nd rfl (Or.inl rfl))
        (pss_one (ps_if (pt_cmp (pc_dnotin (hu_of hr) (pv 1) (pe_fld (pv 0) rfl)) rfl) (pss_one (ps_ret (pe_lst (pa_cons (pv 1) pa_nil)))) pss_nil)))
      (pss_one (ps_ret (pe_lst (pa_cons (pe_gint h11) pa_nil)))), ?_⟩
    refine ⟨_, rfl, p, C.B, dx, _, _, rfl, B.hp, T.cl, T.nSeal, bfs_seal, sl, C.S, dxs, _, _, rfl, hs, TS.cl, TS.nNumber, sfs_number _, (b.heardSeal.many : Int), rfl, by omega, by omega,
      for_range (n := b.heardSeal.many) (fun i σ H' => (∃ v1 : Option V, σ = [some (.ref p), v1]) ∧ H' = H ∧ ∀ j, j < i → b.knows j = true) ⟨⟨none, rfl⟩, rfl, fun j hj => by omega⟩ ?_ ?_⟩
    · rintro i σ H' hi ⟨⟨v1, rfl⟩, rfl, hk⟩
      have e0 : (0 : Int) + (i : Int) = (i : Int) := Int.zero_add _
      rw [e0]
      refine ⟨_, rfl, _, rfl, p, C.B, dx, _, _, rfl, B.hp, T.cl, T.nNumbers, bfs_numbers, nd, _, rfl, DGet.k (k := Sum.inl (i : Int)) B.hnd, _, rfl, ?_⟩
      rw [B.nk i]
      cases e : b.knows i with
      | false =>
        refine iteT ⟨_, rfl, (by show 1 ≤ sizeLine; decide), fun r hr => ?_⟩
        have := q r hr
        rw [lackI_first hi hk e] at this
        exact this
      | true =>
        refine iteF ⟨⟨_, rfl⟩, rfl, fun j hj => ?_⟩
        rcases Nat.lt_or_eq_of_le (Nat.le_of_lt_succ hj) with h | h
        · exact hk j h
        · rw [h]; exact e
    · rintro σ H' ⟨⟨v1, rfl⟩, rfl, hk⟩
      refine ⟨(by show 1 ≤ sizeLine; decide), fun r hr => ?_⟩
      have := q r hr
      rw [lackI_none hk] at this
      exact this
/-! ### is_whole -/
theorem scWh : FnScope ["self", "time"] ["self", "time"] (defScope sBWhole) := ⟨rfl, rfl, rfl, by decide +kernel, rfl, by decide +kernel, by decide +kernel⟩
theorem ok_whole {f fL : Addr} {fd fdL : FuncData} (F : Fun K "is_whole" "Board.is_whole" sBWhole f fd) (T : TxBd K mg C) (TS : TxS K C.S) (GL : FnOk P w K mg base CX0 1 fL fdL ["self"] (spLacks C)) (bL : Binds K fdL ["self"] []) (mL : Meth K C.B "sb_lacks" fL) :
    FnOk P w K mg base CX0 2 f fd ["self", "time"] (spWhole C) := by
  obtain ⟨t1, h11⟩ := T.lack
  refine F.ok scWh (fun vs H Q E h => ?_) (fun cdv A outer s H vs Q E hr h => ?_)
  · obtain ⟨p, b, R, t, rfl, _⟩ := h
    rfl
  · obtain ⟨p, b, R, t, rfl, ok, D, q⟩ := h
    obtain ⟨dx, sl, nd, gd, kvs, gvs, B⟩ := id D
    obtain ⟨dxs, hs⟩ := B.hsl
    refine ⟨_, pss_one (ps_ret (pe_and (pe_cmpR op_ge (pe_fld (pe_fld (pv 0) rfl) rfl) (pv 1) (nomark _)) (pe_one (pe_cmpR (op_eqI hr.units) (pe_meth0 (pv 0) T.cl mL GL hr bL .nil pass0) (pe_lst (pa_cons (pe_gint h11) pa_nil)) (nomark _))))), ?_⟩
    refine ⟨_, rfl, p, C.B, dx, _, _, rfl, B.hp, T.cl, T.nSeal, bfs_seal, sl, C.S, dxs, _, _, rfl, hs, TS.cl, TS.nTime, sfs_time _, _, rfl, _, _, rfl, rfl, _, rfl, ite2 (fun c => ?_) (fun c => ?_)⟩
    · have c := of_decide_eq_true c
      refine ⟨_, rfl, p, dx, _, rfl, B.hp, bfs_no (by decide +kernel) (by decide +kernel) (by decide +kernel) (by decide +kernel) (by decide +kernel), p, b, R, rfl, ok, D, fun r hr1 => ?_⟩
      refine ⟨(by show 1 ≤ sizeLine; decide), fun z hz => ⟨r, z, [lackI b], [-11], rfl, rfl, SqL.of ?_, SqL.of upd_same, ?_⟩⟩
      · rw [upd_ne (ne_of_none upd_same hz)]
        exact upd_same
      · have e : b.whole t = decide ([lackI b] = [(-11 : Int)]) := by
          rw [whole_eq2, decide_eq_true (show t ≤ b.heardSeal.time by omega), Bool.true_and]
          exact decide_eq_decide.mpr (by simp)
        have := q _ ((same_new (o := .lst [.int (lackI b)]) hr1).trans (same_new (o := .lst [.int (-11)]) hz))
        rw [e] at this
        exact this
    · have e : b.whole t = false := by
        rw [whole_eq2, decide_eq_false (fun z => c (decide_eq_true (by omega))), Bool.false_and]
      have := q H (Same.refl H)
      rw [e] at this
      exact this
/-! ### gain_at, sb_gain -/
theorem scAt : FnScope ["self", "channel", "bus", "time"] ["self", "channel", "bus", "time"] (defScope sBGAt) := ⟨rfl, rfl, rfl, by decide +kernel, rfl, by decide +kernel, by decide +kernel⟩
theorem ok_gat {f fA : Addr} {fd fdA : FuncData} (F : Fun K "gain_at" "Board.gain_at" sBGAt f fd) (T : TxBd K mg C)
    (GA : FnOk P w K mg base CX0 2 fA fdA ["steps", "time"] (spGAl C.T C.O)) (kA : PySem.W.keepIn K (.ref fA) = true) (bA : Binds K fdA ["steps", "time"] []) (mA : mg "gain_along" = some (.ref fA)) :
    FnOk P w K mg base CX0 3 f fd ["self", "channel", "bus", "time"] (spGAt C) := by
  refine F.ok scAt (fun vs H Q E h => ?_) (fun cdv A outer s H vs Q E hr h => ?_)
  · obtain ⟨p, b, R, c, u, t, rfl, _⟩ := h
    rfl
  · obtain ⟨p, b, R, c, u, t, rfl, ok, D, q⟩ := h
    obtain ⟨dx, sl, nd, gd, kvs, gvs, B⟩ := id D
    refine ⟨_, pss_one (ps_ret (pe_call GA hr rfl mA kA bA .nil pass0 (pa_cons (pe_dget2 (hu_of hr) (pe_fld (pv 0) rfl) (pe_tup (pa_cons (pv 1) (pa_cons (pv 2) pa_nil))) (pe_lst pa_nil) ⟨rfl, rfl, rfl, rfl⟩) (pa_cons (pv 3) pa_nil)))), ?_⟩
    refine ⟨_, rfl, p, C.B, dx, _, _, rfl, B.hp, T.cl, T.nGains, bfs_gains, gd, rfl, .inr ⟨_, .inl B.hgd⟩, _, rfl, _, rfl, (by show 2 ≤ sizeLine; decide), fun tp htp => ⟨(by show 0 ≤ sizeLine; decide), fun el hel => ?_⟩⟩
    have s1 : Same H (upd H tp (.tup [.int (c : Int), .int (u : Int)])) := same_new htp
    have s2 := s1.trans (same_new (o := .lst []) hel)
    have hkey : upd (upd H tp (.tup [.int (c : Int), .int (u : Int)])) el (.lst []) tp = some (.tup ([Sum.inl (c : Int), Sum.inl (u : Int)].map kV)) := by
      rw [upd_ne (ne_of_none upd_same hel), upd_same]
      rfl
    refine ⟨_, DGet.t (k := [Sum.inl (c : Int), Sum.inl (u : Int)]) (s2 _ _ B.hgd) hkey, ?_⟩
    have hfl : ∀ s ∈ steps (lane b.orders c u), s.1.fade ≤ 480000 := fun s hs => by
      have : s.1 ∈ (steps (lane b.orders c u)).map Prod.fst := List.mem_map_of_mem hs
      rw [steps_fst] at this
      exact ((good_iff _).mp (ok.good _ (mem_lane this).1)).2.2.2.2.2
    have fin := q _ s2
    rw [gain_lane] at fin
    have hl := B.lanes c u
    cases e : valV gvs [Sum.inl (c : Int), Sum.inl (u : Int)] with
    | none =>
      rw [e] at hl
      have hl : lane b.orders c u = [] := hl
      rw [hl] at fin
      exact ⟨_, rfl, el, R, [], [], t, rfl, upd_same, .nil, (fun s hs => by cases hs), fin⟩
    | some v =>
      rw [e] at hl
      obtain ⟨la, sas, rfl, h2, h3, h4⟩ := hl
      exact ⟨_, rfl, la, R, sas, _, t, rfl, s2 _ _ h2, paired_mono (fun s a h => h.mono (fun _ h => h) fun x o _ e => s2 x o e) h3, hfl, fin⟩
theorem scGn : FnScope ["self", "channel", "bus", "time"] ["self", "channel", "bus", "time"] (defScope sBGain) := ⟨rfl, rfl, rfl, by decide +kernel, rfl, by decide +kernel, by decide +kernel⟩
theorem ok_gain {f fA : Addr} {fd fdA : FuncData} (F : Fun K "sb_gain" "Board.sb_gain" sBGain f fd) (T : TxBd K mg C)
    (GA : FnOk P w K mg base CX0 3 fA fdA ["self", "channel", "bus", "time"] (spGAt C)) (bA : Binds K fdA ["self", "channel", "bus", "time"] []) (mA : Meth K C.B "gain_at" fA) :
    FnOk P w K mg base CX0 4 f fd ["self", "channel", "bus", "time"] (spGain C) := by
  obtain ⟨t1, h22⟩ := T.told
  obtain ⟨t2, hT⟩ := T.tend
  refine F.ok scGn (fun vs H Q E h => ?_) (fun cdv A outer s H vs Q E hr h => ?_)
  · obtain ⟨p, b, R, c, u, t, rfl, _⟩ := h
    rfl
  · obtain ⟨p, b, R, c, u, t, rfl, ok, D, k⟩ := h
    obtain ⟨dx, sl, nd, gd, kvs, gvs, B⟩ := id D
    refine ⟨_, pss_cons (ps_if (pw_or (pt_cmpR op_ge (pv 1) (pe_fld (pv 0) rfl) (nomark _)) (pw_or (pt_cmpR op_ge (pv 2) (pe_fld (pv 0) rfl) (nomark _)) (pw_or1 (pt_cmpR op_ge (pv 3) (pe_gint hT) (nomark _))))).pt (pss_one (ps_ret (pe_lst (pa_cons (pe_gint h22) pa_nil)))) pss_nil)
      (pss_one (ps_ret (pe_lst (pa_cons (pe_meth (pv 0) T.cl mA GA hr bA .nil pass0 (pa_cons (pv 1) (pa_cons (pv 2) (pa_cons (pv 3) pa_nil)))) pa_nil)))), ?_⟩
    have refuse : (b.channels ≤ c ∨ b.buses ≤ u ∨ 281474976710656 ≤ t) → (1 ≤ sizeLine) ∧ ∀ r, H r = none → Q (.ref r) (upd H r (.lst [.int (-22)])) := fun h => by
      rw [bGain_22 h] at k
      exact ⟨by decide, fun r hr => k.refuse D hr⟩
    refine ⟨_, rfl, _, rfl, p, C.B, dx, _, _, rfl, B.hp, T.cl, T.nChannels, bfs_channels, _, _, rfl, rfl, _, rfl, ite2 (fun a => iteT (refuse (.inl (by have := of_decide_eq_true a; omega)))) (fun a1 => ?_)⟩
    have a1 : ¬ b.channels ≤ c := fun z => a1 (decide_eq_true (by omega))
    refine ⟨_, rfl, _, rfl, p, C.B, dx, _, _, rfl, B.hp, T.cl, T.nBuses, bfs_buses, _, _, rfl, rfl, _, rfl, ite2 (fun a => iteT (refuse (.inr (.inl (by have := of_decide_eq_true a; omega))))) (fun a2 => ?_)⟩
    have a2 : ¬ b.buses ≤ u := fun z => a2 (decide_eq_true (by omega))
    refine ⟨_, rfl, _, _, rfl, rfl, _, rfl, ite2 (fun a => refuse (.inr (.inr (by have := of_decide_eq_true a; omega)))) (fun a3 => ?_)⟩
    have a3 : ¬ 281474976710656 ≤ t := fun z => a3 (decide_eq_true (by omega))
    rw [bGain_ok (by omega)] at k
    refine ⟨_, rfl, p, dx, _, rfl, B.hp, bfs_no (by decide +kernel) (by decide +kernel) (by decide +kernel) (by decide +kernel) (by decide +kernel), _, rfl, _, rfl, _, rfl, p, b, R, c, u, t, rfl, ok, D, fun H1 s1 => ⟨(by show 1 ≤ sizeLine; decide), fun r hr1 => ?_⟩⟩
    exact k.still D s1 hr1
end
end Sb

set_option Elab.async false
set_option maxRecDepth 100000
set_option maxHeartbeats 4000000
/-! A board that hears: hear_seal, hear_order, sb_heard. -/
namespace Sb
open PySem PySem.Spec PyProof.Rows L2
open Km345 (Board Order Seal)
/-! ### over the specification -/
def hsOf (b : Board) (z : Seal) : Board × Nat := if b.heardSeal.more z = true then ({ b with heardSeal := z }, 1) else (b, 0)
def hoOf (b : Board) (o : Order) : Board × Nat := if b.knows o.number = true then (b, 0) else ({ b with orders := Km345.insertNumber o b.orders }, 1)
theorem more_iff (a z : Seal) : a.more z = true ↔ a.time < z.time ∨ (a.time = z.time ∧ a.many < z.many) := by
  unfold Seal.more
  simp
theorem lexLe_seal (a z : Seal) : HT.lexLe [(z.time : Int), (z.many : Int)] [(a.time : Int), (a.many : Int)] = !(a.more z) := by
  show (if (z.time : Int) = (a.time : Int) then (if (z.many : Int) = (a.many : Int) then true else decide ((z.many : Int) ≤ (a.many : Int))) else decide ((z.time : Int) ≤ (a.time : Int))) = _
  cases h : a.more z with
  | true =>
    have h := (more_iff a z).mp h
    by_cases e : (z.time : Int) = (a.time : Int)
    · rw [if_pos e, if_neg (by omega)]
      exact decide_eq_false (by omega)
    · rw [if_neg e]
      exact decide_eq_false (by omega)
  | false =>
    have h : ¬ (a.time < z.time ∨ (a.time = z.time ∧ a.many < z.many)) := fun q => by rw [(more_iff a z).mpr q] at h; cases h
    by_cases e : (z.time : Int) = (a.time : Int)
    · rw [if_pos e]
      by_cases e2 : (z.many : Int) = (a.many : Int)
      · rw [if_pos e2]; rfl
      · rw [if_neg e2]
        exact decide_eq_true (by omega)
    · rw [if_neg e]
      exact decide_eq_true (by omega)
theorem knows_mem {b : Board} {n : Nat} : b.knows n = true ↔ ∃ o ∈ b.orders, o.number = n := by
  unfold Board.knows
  rw [List.any_eq_true]
  simp
theorem hs_ok {b : Board} {z : Seal} (h : BOk b) (hz : z.good = true) : BOk (hsOf b z).1 := by
  unfold hsOf
  split
  · exact ⟨h.ch, h.bu, h.apart, h.good, ((sgood_iff z).mp hz).1⟩
  · exact h
theorem ho_apart {b : Board} {o : Order} (h : BOk b) (hn : b.knows o.number = false) : Apart (o :: b.orders) :=
  List.pairwise_cons.mpr ⟨(fun p hp e => by rw [knows_mem.mpr ⟨p, hp, e.symm⟩] at hn; cases hn), h.apart⟩
theorem ho_ok {b : Board} {o : Order} (h : BOk b) (ho : o.good = true) : BOk (hoOf b o).1 := by
  unfold hoOf
  split
  · exact h
  · rename_i hn
    have hn : b.knows o.number = false := by
      cases e : b.knows o.number with
      | false => rfl
      | true => exact absurd e hn
    refine ⟨h.ch, h.bu, (ho_apart h hn).perm (insertNumber_perm o b.orders).symm, fun p hp => ?_, h.many⟩
    rcases List.mem_cons.mp ((insertNumber_perm o b.orders).mem_iff.mp hp) with rfl | hp
    · exact ho
    · exact h.good p hp
theorem hears_order {b : Board} {l : List Nat} {o : Order} (h : Km345.orderOf l = some o) : b.hears l = some (hoOf b o) := by
  unfold Board.hears
  rw [h]
  rfl
theorem hears_seal {b : Board} {l : List Nat} {z : Seal} (h : Km345.orderOf l = none) (h2 : Km345.sealOf l = some z) : b.hears l = some (hsOf b z) := by
  unfold Board.hears
  rw [h, h2]
  rfl
theorem hears_none {b : Board} {l : List Nat} (h : Km345.orderOf l = none) (h2 : Km345.sealOf l = none) : b.hears l = none := by
  unfold Board.hears
  rw [h, h2]
theorem bHeard_some {b : Board} {l : List Nat} {x : Board × Nat} (h : b.hears l = some x) : Km345.bDoes b (.bHeard l) = (x.1, Km345.only (x.2 : Nat)) := by
  show (match b.hears l with
      | none => (b, Km345.only (-71))
      | some x => (x.1, Km345.only (x.2 : Nat))) = _
  rw [h]
theorem bHeard_none {b : Board} {l : List Nat} (h : b.hears l = none) : Km345.bDoes b (.bHeard l) = (b, Km345.only (-71)) := by
  show (match b.hears l with
      | none => (b, Km345.only (-71))
      | some x => (x.1, Km345.only (x.2 : Nat))) = _
  rw [h]
/-! ### promises -/
def spHSeal (C : Cl) : Sp := fun vs H Q _ => ∃ (p a : Addr) (b : Board) (R : Addr → Prop) (z : Seal), vs = [.ref p, .ref a] ∧ BoardAt C H p b R ∧ SealAt C.S H a z ∧
  ∀ (H' : Hp) (R' : Addr → Prop), BoardAt C H' p (hsOf b z).1 R' → (∀ x, R' x → R x ∨ x = a) → (∀ x u, H x = some u → ¬ R x → H' x = some u) → (∀ x, H' x = none → H x = none) → Q (.int ((hsOf b z).2 : Nat)) H'
def spHOrd (C : Cl) : Sp := fun vs H Q _ => ∃ (p a : Addr) (b : Board) (R : Addr → Prop) (o : Order), vs = [.ref p, .ref a] ∧ BOk b ∧ BoardAt C H p b R ∧ OrdAt C.O H a o ∧ o.good = true ∧
  ∀ (H' : Hp) (R' : Addr → Prop), BoardAt C H' p (hoOf b o).1 R' → (∀ x, R' x → R x ∨ x = a ∨ H x = none) → (∀ x u, H x = some u → ¬ R x → H' x = some u) → (∀ x, H' x = none → H x = none) → Q (.int ((hoOf b o).2 : Nat)) H'
def spHeard (C : Cl) : Sp := fun vs H Q _ => ∃ (p a : Addr) (b : Board) (R : Addr → Prop) (l : List Nat), vs = [.ref p, .ref a] ∧ BOk b ∧ BoardAt C H p b R ∧ H a = some (.lst (nV l)) ∧ l.length = 28 ∧ (∀ x ∈ l, x < 256) ∧
  RetB C H p R (Km345.bDoes b (.bHeard l)).1 (Km345Neutral.told (Km345.bDoes b (.bHeard l)).2) Q
section
variable {P : Program} {w : World} {K : PySem.W.Frag} {mg : Str → Option Value} {base : Heap} {C : Cl}
theorem BoardBody.apart {H : Hp} {p : Addr} {b : Board} {R : Addr → Prop} {dx sl nd gd : Addr} {kvs : List (Key × V)} {gvs : List (List Key × V)} (B : BoardBody C H p b R dx sl nd gd kvs gvs) : p ≠ sl ∧ p ≠ nd ∧ p ≠ gd ∧ sl ≠ nd ∧ sl ≠ gd ∧ nd ≠ gd := by
  obtain ⟨dxs, hs⟩ := B.hsl
  refine ⟨ne_of B.hp hs ?_, ne_of B.hp B.hnd (by intro z; cases z), ne_of B.hp B.hgd (by intro z; cases z), ne_of hs B.hnd (by intro z; cases z), ne_of hs B.hgd (by intro z; cases z), ne_of B.hnd B.hgd (by intro z; cases z)⟩
  intro z
  injection z with _ _ z
  exact absurd (show (5 : Nat) = 2 from congrArg List.length z) (by decide)
/-- a lane stays where p, nd and gd alone are written -/
theorem LaneAt.kept {H H' : Hp} {R R' : Addr → Prop} {l : List Order} {v : Option V} {p dx sl nd gd : Addr} {ch bu : Nat} {kvs : List (Key × V)} {gvs : List (List Key × V)} (h : LaneAt C.T C.O H R l v) (hp : H p = some (.ins C.B dx (bfs ch bu sl nd gd))) (hn : H nd = some (.dK kvs)) (hg : H gd = some (.dT gvs))
    (hr : ∀ b, R b → R' b) (k : ∀ x u, H x = some u → x ≠ p → x ≠ nd → x ≠ gd → H' x = some u) : LaneAt C.T C.O H' R' l v := by
  cases v with
  | none => exact h
  | some v =>
    obtain ⟨la, sas, h1, h2, h3, h4⟩ := h
    refine ⟨la, sas, h1, k _ _ h2 (ne_of h2 hp (by intro z; cases z)) (ne_of h2 hn (by intro z; cases z)) (ne_of h2 hg (by intro z; cases z)), paired_mono (fun s a q => ?_) h3, hr _ h4⟩
    obtain ⟨dx', oa, q1, ⟨dxo, q2⟩, q3, q4⟩ := q
    refine ⟨dx', oa, k _ _ q1 (ne_of q1 hp ?_) (ne_of q1 hn (by intro z; cases z)) (ne_of q1 hg (by intro z; cases z)), ⟨dxo, k _ _ q2 (ne_of q2 hp ?_) (ne_of q2 hn (by intro z; cases z)) (ne_of q2 hg (by intro z; cases z))⟩, hr _ q3, hr _ q4⟩
    · intro z
      injection z with _ _ z
      exact absurd (show (2 : Nat) = 5 from congrArg List.length z) (by decide)
    · intro z
      injection z with _ _ z
      exact absurd (show (6 : Nat) = 5 from congrArg List.length z) (by decide)
/-! ### hear_seal -/
theorem scHS : FnScope ["self", "seal"] ["self", "seal"] (defScope sBHSeal) := ⟨rfl, rfl, rfl, by decide +kernel, rfl, by decide +kernel, by decide +kernel⟩
theorem ok_hseal {f fT : Addr} {fd fdT : FuncData} (F : Fun K "hear_seal" "Board.hear_seal" sBHSeal f fd) (T : TxBd K mg C) (TS : TxS K C.S)
    (GT : FnOk P w K mg base CX0 1 fT fdT ["told"] (spTTN K)) (kT : PySem.W.keepIn K (.ref fT) = true) (bT : Binds K fdT ["told"] []) (mT : mg "time_then_number" = some (.ref fT)) :
    FnOk P w K mg base CX0 2 f fd ["self", "seal"] (spHSeal C) := by
  refine F.ok scHS (fun vs H Q E h => ?_) (fun cdv A outer s H vs Q E hr h => ?_)
  · obtain ⟨p, a, b, R, z, rfl, _⟩ := h
    rfl
  · obtain ⟨p, a, b, R, z, rfl, D, ⟨dxz, hz⟩, q⟩ := h
    obtain ⟨dx, sl, nd, gd, kvs, gvs, B⟩ := id D
    obtain ⟨dxs, hs⟩ := B.hsl
    refine ⟨_, pss_cons (ps_if (pt_cmpR (op_leT hr.units0) (pe_call GT hr rfl mT kT bT .nil pass0 (pa_cons (pv 1) pa_nil)) (pe_call GT hr rfl mT kT bT .nil pass0 (pa_cons (pe_fld (pv 0) rfl) pa_nil)) (nomark _)) (pss_one (ps_ret pe_int)) pss_nil)
      (pss_cons (ps_fld (pv 0) (pv 1) rfl) (pss_one (ps_ret pe_int))), ?_⟩
    refine ⟨_, rfl, a, C.S, dxz, _, _, _, rfl, hz, TS.cl, TS.nTime, TS.nNumber, sfs_time z, sfs_number z, fun t1 n1 => ?_⟩
    have s1 : Same H (upd H t1 (.tup [.int (z.time : Int), .int (z.many : Int)])) := same_new n1
    refine ⟨_, rfl, p, C.B, dx, _, _, rfl, s1 _ _ B.hp, T.cl, T.nSeal, bfs_seal, sl, C.S, dxs, _, _, _, rfl, s1 _ _ hs, TS.cl, TS.nTime, TS.nNumber, sfs_time _, sfs_number _, fun t2 n2 => ?_⟩
    have s2 := s1.trans (same_new (o := .tup [.int (b.heardSeal.time : Int), .int (b.heardSeal.many : Int)]) n2)
    generalize e2 : upd (upd H t1 (.tup [.int (z.time : Int), .int (z.many : Int)])) t2 (.tup [.int (b.heardSeal.time : Int), .int (b.heardSeal.many : Int)]) = H2 at s2
    refine ⟨t1, t2, [(z.time : Int), (z.many : Int)], [(b.heardSeal.time : Int), (b.heardSeal.many : Int)], rfl, rfl, .inl (.inl ?_), .inl (.inl ?_), _, rfl, ?_⟩
    · rw [← e2, upd_ne (ne_of_none upd_same n2), upd_same]
      rfl
    · rw [← e2, upd_same]
      rfl
    rw [lexLe_seal]
    cases hm : b.heardSeal.more z with
    | false =>
      have e : hsOf b z = (b, 0) := if_neg (by rw [hm]; simp)
      rw [e] at q
      exact iteT (q H2 R (D.same s2) (fun x hx => .inl hx) (fun x u e _ => s2 x u e) (fun x hx => s2.free hx))
    | true =>
      have e : hsOf b z = ({ b with heardSeal := z }, 1) := if_pos hm
      rw [e] at q
      have B2 := B.same s2
      refine iteF ⟨_, rfl, _, rfl, p, C.B, dx, _, rfl, B2.hp, T.cl, T.nSeal, (by rw [bfs_len]; decide), ?_⟩
      rw [bfs_put_seal]
      have hz2 := s2 _ _ hz
      have nap : a ≠ p := ne_of hz2 B2.hp (by
        intro q
        injection q with _ _ q
        exact absurd (show (2 : Nat) = 5 from congrArg List.length q) (by decide))
      obtain ⟨_, npn, npg, _, _, _⟩ := B2.apart
      have k3 : ∀ x, x ≠ p → upd H2 p (.ins C.B dx (bfs b.channels b.buses a nd gd)) x = H2 x := fun x hx => upd_ne hx
      refine q _ (fun x => R x ∨ x = a) ⟨dx, a, nd, gd, kvs, gvs, ?_⟩ (fun x hx => hx) (fun x u e hx => ?_) (fun x hx => ?_)
      · exact { hp := upd_same, hsl := ⟨dxz, (k3 _ nap).trans hz2⟩, hnd := (k3 _ npn.symm).trans B2.hnd, hgd := (k3 _ npg.symm).trans B2.hgd, nk := B2.nk, nl := B2.nl, gl := B2.gl,
                lanes := fun c u => (B2.lanes c u).kept B2.hp B2.hnd B2.hgd (fun _ h => .inl h) fun x v e n1 _ _ => (k3 x n1).trans e,
                rp := .inl B2.rp, rsl := .inr rfl, rnd := .inl B2.rnd, rgd := .inl B2.rgd, all := fun x hx => by
                  rcases hx with hx | rfl
                  · by_cases e : x = p
                    · exact ⟨_, by rw [e]; exact upd_same⟩
                    · rw [k3 x e]
                      exact B2.all x hx
                  · exact ⟨_, (k3 _ nap).trans hz2⟩ }
      · rw [k3 x (fun z => hx (z ▸ B.rp))]
        exact s2 x u e
      · have nx : x ≠ p := fun z => by rw [z, upd_same] at hx; cases hx
        rw [k3 x nx] at hx
        exact s2.free hx

/-! ### hear_order -/
theorem putK_length {κ : Type} [DecidableEq κ] (kvs : List (κ × V)) (k : κ) (v : V) : (putK kvs k v).length ≤ kvs.length + 1 := by
  unfold putK
  split
  · rw [List.length_map]
    omega
  · rw [List.length_append, List.length_singleton]
    exact Nat.le_refl _
theorem knows_put {b : Board} {o : Order} (n : Nat) : ({ b with orders := Km345.insertNumber o b.orders } : Board).knows n = (decide (n = o.number) || b.knows n) := by
  have h : ({ b with orders := Km345.insertNumber o b.orders } : Board).knows n = true ↔ (decide (n = o.number) || b.knows n) = true := by
    rw [knows_mem, Bool.or_eq_true, decide_eq_true_eq, knows_mem]
    constructor
    · rintro ⟨p, hp, e⟩
      rcases List.mem_cons.mp ((insertNumber_perm o b.orders).mem_iff.mp hp) with rfl | hp
      · exact .inl e.symm
      · exact .inr ⟨p, hp, e⟩
    · rintro (e | ⟨p, hp, e⟩)
      · exact ⟨o, (insertNumber_perm o b.orders).mem_iff.mpr List.mem_cons_self, e.symm⟩
      · exact ⟨p, (insertNumber_perm o b.orders).mem_iff.mpr (List.mem_cons_of_mem _ hp), e⟩
  cases h1 : ({ b with orders := Km345.insertNumber o b.orders } : Board).knows n with
  | true => exact (h.mp h1).symm
  | false =>
    cases h2 : (decide (n = o.number) || b.knows n) with
    | false => rfl
    | true => rw [h.mpr h2] at h1; cases h1
/-- the orders of steps, by their places -/
theorem step_orders {CT CO : Addr} {R : Addr → Prop} {H : Hp} : ∀ {ss : List (Order × Int)} {sas : List Addr}, Paired (StepAt CT CO R H) ss sas → ∃ oas : List Addr, Paired (fun o oa => OrdAt CO H oa o) (ss.map Prod.fst) oas ∧ (∀ a ∈ oas, R a) ∧
    Paired (fun sa oa => ∃ dx g, H sa = some (.ins CT dx (tfs oa g))) sas oas
  | _, _, .nil => ⟨[], .nil, (fun a ha => by cases ha), .nil⟩
  | _, _, .cons r t => by
    obtain ⟨oas, h1, h2, h3⟩ := step_orders t
    obtain ⟨dx, oa, q1, q2, q3, q4⟩ := r
    refine ⟨oa :: oas, .cons q2 h1, fun a ha => ?_, .cons ⟨dx, _, q1⟩ h3⟩
    rcases List.mem_cons.mp ha with rfl | ha
    · exact q4
    · exact h2 a ha
theorem paired_get' {α β : Type} {R : α → β → Prop} : ∀ {l : List α} {m : List β} {i : Nat} {a : α}, Paired R l m → l[i]? = some a → ∃ b, m[i]? = some b ∧ R a b
  | _, _, _, _, .nil, h => by cases h
  | _, b :: _, 0, _, .cons r _, h => by
    cases h
    exact ⟨b, rfl, r⟩
  | _, _, i + 1, _, .cons _ t, h => paired_get' (i := i) t h
theorem paired_app {α β : Type} {R : α → β → Prop} : ∀ {l l' : List α} {m m' : List β}, Paired R l m → Paired R l' m' → Paired R (l ++ l') (m ++ m')
  | _, _, _, _, .nil, h => h
  | _, _, _, _, .cons r t, h => .cons r (paired_app t h)
theorem scHO : FnScope ["self", "order", "place", "heard", "step"] ["self", "order"] (defScope sBHOrd) := ⟨rfl, rfl, rfl, by decide +kernel, rfl, by decide +kernel, by decide +kernel⟩
theorem ok_hord {f fS : Addr} {fd fdS : FuncData} (F : Fun K "hear_order" "Board.hear_order" sBHOrd f fd) (T : TxBd K mg C) (TM : TxM K mg C.O) (TT : TxT K C.T)
    (GS : FnOk P w K mg base CX0 4 fS fdS ["orders"] (spStO C.T C.O)) (kS : PySem.W.keepIn K (.ref fS) = true) (bS : Binds K fdS ["orders"] []) (mS : mg "steps_of" = some (.ref fS)) :
    FnOk P w K mg base CX0 5 f fd ["self", "order"] (spHOrd C) := by
  refine F.ok scHO (fun vs H Q E h => ?_) (fun cdv A outer s H vs Q E hr h => ?_)
  · obtain ⟨p, a, b, R, o, rfl, _⟩ := h
    rfl
  · obtain ⟨p, a, b, R, o, rfl, ok, D, ⟨dxo, ho⟩, hg, q⟩ := h
    obtain ⟨dx, sl, nd, gd, kvs, gvs, B⟩ := id D
    refine ⟨_, pss_cons (ps_if (pt_cmp (pc_din (hu_of hr) (pe_fld (pv 1) rfl) (pe_fld (pv 0) rfl)) rfl) (pss_one (ps_ret pe_int)) pss_nil)
      (pss_cons (ps_dput (hu_of hr) (pe_fld (pv 0) rfl) (pe_fld (pv 1) rfl) pe_bl rfl)
      (pss_cons (ps_set (i := 2) scHO.nd rfl (Or.inl rfl) (pe_tup (pa_cons (pe_fld (pv 1) rfl) (pa_cons (pe_fld (pv 1) rfl) pa_nil))))
      (pss_cons (ps_setLc (i := 3) (own := [("step", 4)]) (te := tFld K (tVar 4) "order") rfl scHO.nd rfl rfl (sw_true rfl rfl rfl rfl) (pi_list (pe_dget2 (hu_of hr) (pe_fld (pv 0) rfl) (pv 2) (pe_lst pa_nil) ⟨rfl, rfl, rfl, rfl⟩))
        (blkOk_by (N := ["self", "order", "place", "heard", "step"]) (sc := defScope sBHOrd) (by decide +kernel))
        (fun _ _ _ _ _ => pg_name (i := 4) scHO.nd rfl (Or.inl rfl)) (fun _ _ _ _ _ => pts_nil) (fun _ _ _ _ _ => pe_fld (pv 4) rfl))
      (pss_cons (ps_dput (hu_of hr) (pe_fld (pv 0) rfl) (pv 2) (pe_call GS hr rfl mS kS bS .nil pass0 (pa_cons (pe_op op_cat (pv 3) (pe_lst (pa_cons (pv 1) pa_nil))) pa_nil)) rfl)
      (pss_one (ps_ret pe_int)))))), ?_⟩
    have hcnt := ok.count
    have hnl := B.nl
    have hgl := B.gl
    refine ⟨_, rfl, a, C.O, dxo, _, _, rfl, ho, TM.clO, TM.nNumber, ofs_number o, _, rfl, p, C.B, dx, _, _, rfl, B.hp, T.cl, T.nNumbers, bfs_numbers, nd, _, rfl, DGet.k (k := Sum.inl (o.number : Int)) B.hnd, _, rfl, ?_⟩
    rw [B.nk o.number]
    cases hkn : b.knows o.number with
    | true =>
      have e : hoOf b o = (b, 0) := if_pos hkn
      rw [e] at q
      exact iteT (q H R D (fun x hx => .inl hx) (fun x u e _ => e) (fun x hx => hx))
    | false =>
    have e : hoOf b o = ({ b with orders := Km345.insertNumber o b.orders }, 1) := if_neg (by rw [hkn]; simp)
    rw [e] at q
    refine iteF ?_
    obtain ⟨nps, npn, npg, nsn, nsg, nng⟩ := B.apart
    -- numbers
    refine ⟨_, rfl, p, C.B, dx, _, _, rfl, B.hp, T.cl, T.nNumbers, bfs_numbers, _, rfl, a, C.O, dxo, _, _, rfl, ho, TM.clO, TM.nNumber, ofs_number o, nd, _, rfl, DPut.k (k := Sum.inl (o.number : Int)) B.hnd (line_lt (by omega)), ?_⟩
    generalize e1 : upd H nd (.dK (putK kvs (Sum.inl (o.number : Int)) (.bl true))) = H1
    have k1 : ∀ x u, H x = some u → x ≠ nd → H1 x = some u := fun x u e n => by rw [← e1, upd_ne n]; exact e
    have n1 : H1 nd = some (.dK (putK kvs (Sum.inl (o.number : Int)) (.bl true))) := by rw [← e1]; exact upd_same
    have b1 : ∀ x, H1 x = none → H x = none := fun x hx => by
      cases e : H x with
      | none => rfl
      | some u =>
        by_cases z : x = nd
        · rw [z, n1] at hx; cases hx
        · rw [k1 x u e z] at hx; cases hx
    have nan : a ≠ nd := ne_of ho B.hnd (by intro z; cases z)
    have ho1 := k1 _ _ ho nan
    have hp1 := k1 _ _ B.hp npn
    have hg1 := k1 _ _ B.hgd nng.symm
    -- place
    refine ⟨_, rfl, a, C.O, dxo, _, _, rfl, ho1, TM.clO, TM.nChannel, ofs_channel o, _, rfl, a, C.O, dxo, _, _, rfl, ho1, TM.clO, TM.nBus, ofs_bus o, (by show 2 ≤ sizeLine; decide), fun tp ntp => ?_⟩
    have s2 : Same H1 (upd H1 tp (.tup [.int (o.channel : Int), .int (o.bus : Int)])) := same_new ntp
    have t2 : upd H1 tp (.tup [.int (o.channel : Int), .int (o.bus : Int)]) tp = some (.tup ([Sum.inl (o.channel : Int), Sum.inl (o.bus : Int)].map kV)) := upd_same
    generalize upd H1 tp (.tup [.int (o.channel : Int), .int (o.bus : Int)]) = H2 at s2 t2
    -- heard
    refine ⟨_, rfl, p, C.B, dx, _, _, rfl, s2 _ _ hp1, T.cl, T.nGains, bfs_gains, gd, rfl, .inr ⟨_, .inl (s2 _ _ hg1)⟩, _, rfl, (by show 0 ≤ sizeLine; decide), fun el nel => ?_⟩
    have s3' : Same H2 (upd H2 el (.lst [])) := same_new nel
    have hel : upd H2 el (.lst []) el = some (.lst (([] : List Addr).map V.ref)) := upd_same
    generalize upd H2 el (.lst []) = H3 at s3' hel
    have s3 := s2.trans s3'
    have hlane := B.lanes o.channel o.bus
    have hex : ∃ la sas, (valV gvs [Sum.inl (o.channel : Int), Sum.inl (o.bus : Int)]).getD (.ref el) = .ref la ∧ H3 la = some (.lst (sas.map V.ref)) ∧ Paired (StepAt C.T C.O R H3) (steps (lane b.orders o.channel o.bus)) sas := by
      cases ev : valV gvs [Sum.inl (o.channel : Int), Sum.inl (o.bus : Int)] with
      | none =>
        rw [ev] at hlane
        have hlane : lane b.orders o.channel o.bus = [] := hlane
        rw [hlane]
        exact ⟨el, [], rfl, hel, .nil⟩
      | some v =>
        rw [ev] at hlane
        have hl3 := hlane.kept (H' := H3) (R' := R) B.hp B.hnd B.hgd (fun _ h => h) fun x u e _ n2 _ => s3 _ _ (k1 x u e n2)
        obtain ⟨la, sas, rfl, h2, h3, h4⟩ := hl3
        exact ⟨la, sas, rfl, h2, h3⟩
    obtain ⟨la, sas, hla, hls, hst⟩ := hex
    obtain ⟨oas, ho3, hro, hso⟩ := step_orders hst
    rw [steps_fst] at ho3
    have hlo := Paired.length ho3
    have hls2 := Paired.length hso
    have hll := lane_length b.orders o.channel o.bus
    generalize hL : lane b.orders o.channel o.bus = L at hlane hst ho3 hlo hll
    refine ⟨_, DGet.t (k := [Sum.inl (o.channel : Int), Sum.inl (o.bus : Int)]) (s3 _ _ hg1) (s3' _ _ t2), la, hla, ⟨_, SqL.of hls⟩, fun D1 hD1 => ?_⟩
    refine lc_list (K := K) (a := la) (xs := sas.map V.ref) (fun i H' => Same H3 H' ∧ H' D1 = some (.lst ((oas.take i).map V.ref))) ⟨same_new hD1, upd_same⟩ ?_ ?_ ?_
    · rintro i H' _ ⟨s4, _⟩
      exact SqL.of (s4 _ _ hls)
    · rintro i x H' hx ⟨s4, h4⟩
      rw [List.getElem?_map] at hx
      obtain ⟨sa, hsa, rfl⟩ : ∃ sa, sas[i]? = some sa ∧ x = V.ref sa := by
        cases e : sas[i]? with
        | none => rw [e] at hx; cases hx
        | some z => rw [e] at hx; exact ⟨z, rfl, (Option.some.inj hx).symm⟩
      obtain ⟨oa, hoa, dx', g, hsa'⟩ := paired_get' hso hsa
      have hil : i < oas.length := (List.getElem?_eq_some_iff.mp hoa).1
      refine ⟨rfl, yes_go ?_⟩
      refine ⟨_, rfl, sa, C.T, dx', _, _, rfl, s4 _ _ hsa', TT.cl, TT.nOrder, tfs_order _ _, _, h4, ?_, ?_, ?_⟩
      · rw [List.length_map, List.length_take]
        exact line_lt (by omega)
      · exact fun b u e => by rw [upd_ne (ne_of_none e hD1)]; exact s4 b u e
      · rw [upd_same, take_snoc hoa, List.map_append]
        rfl
    rintro H4 ⟨s4', h4⟩
    rw [List.length_map, hls2, List.take_length] at h4
    have s4 := s3.trans s4'
    have hoL : Paired (fun o oa => OrdAt C.O H4 oa o) L oas := paired_mono (fun o oa ⟨dxq, h⟩ => ⟨dxq, s4' _ _ h⟩) ho3
    -- gains
    refine ⟨_, rfl, _, rfl, (by show 1 ≤ sizeLine; decide), fun l1 nl1 => ?_⟩
    have s5 : Same H4 (upd H4 l1 (.lst [.ref a])) := same_new nl1
    have hl1 : upd H4 l1 (.lst [.ref a]) l1 = some (.lst [.ref a]) := upd_same
    generalize upd H4 l1 (.lst [.ref a]) = H5 at s5 hl1
    refine ⟨D1, l1, _, _, rfl, rfl, s5 _ _ h4, hl1, ?_, fun l2 nl2 => ?_⟩
    · rw [List.length_map, List.length_singleton]
      exact line_of_le (by omega)
    have s6 : Same H5 (upd H5 l2 (.lst (oas.map V.ref ++ [.ref a]))) := same_new nl2
    have hl2 : upd H5 l2 (.lst (oas.map V.ref ++ [.ref a])) l2 = some (.lst ((oas ++ [a]).map V.ref)) := by
      rw [upd_same, List.map_append]
      rfl
    generalize upd H5 l2 (.lst (oas.map V.ref ++ [.ref a])) = H6 at s6 hl2
    have s16 : Same H1 H6 := s4.trans (s5.trans s6)
    have b6 : ∀ x, H6 x = none → H x = none := fun x hx => b1 x (s16.free hx)
    have hfade : ∀ q ∈ L ++ [o], q.fade ≤ 480000 := fun q hq => by
      rcases List.mem_append.mp hq with hq | hq
      · rw [← hL] at hq
        exact ((good_iff _).mp (ok.good _ (mem_lane hq).1)).2.2.2.2.2
      · rw [List.mem_singleton.mp hq]
        exact ((good_iff _).mp hg).2.2.2.2.2
    refine ⟨l2, oas ++ [a], L ++ [o], rfl, hl2, paired_snoc ⟨dxo, s16 _ _ ho1⟩ (paired_mono (fun o oa ⟨dxq, h⟩ => ⟨dxq, (s5.trans s6) _ _ h⟩) hoL), by rw [List.length_append, List.length_singleton]; omega, hfade, fun H7 la' sas' m hm hasc s7 nla hla' hps => ?_⟩
    have s17 := s16.trans s7
    refine ⟨_, rfl, p, C.B, dx, _, _, rfl, s17 _ _ hp1, T.cl, T.nGains, bfs_gains, _, rfl, gd, _, rfl, DPut.t (k := [Sum.inl (o.channel : Int), Sum.inl (o.bus : Int)]) (s17 _ _ hg1) ((s3'.trans (s4'.trans (s5.trans (s6.trans s7)))) _ _ t2) (line_lt (by omega)), ?_⟩
    generalize e8 : upd H7 gd (.dT (putK gvs [Sum.inl (o.channel : Int), Sum.inl (o.bus : Int)] (.ref la'))) = H8
    have g8 : H8 gd = some (.dT (putK gvs [Sum.inl (o.channel : Int), Sum.inl (o.bus : Int)] (.ref la'))) := by rw [← e8]; exact upd_same
    have k8 : ∀ x u, H7 x = some u → x ≠ gd → H8 x = some u := fun x u e n => by rw [← e8, upd_ne n]; exact e
    have k18 : ∀ x u, H x = some u → x ≠ nd → x ≠ gd → H8 x = some u := fun x u e n1 n2 => k8 x u (s17 _ _ (k1 x u e n1)) n2
    have hap := ho_apart ok hkn
    have hlput := fun c u => lane_put hap c u
    have ascL : Asc L := by rw [← hL]; exact asc_lane _ _ _
    have apL : Apart (L ++ [o]) := by
      refine Apart.perm (l := o :: L) ?_ (List.perm_append_comm (l₁ := [o]) (l₂ := L))
      refine List.pairwise_cons.mpr ⟨fun q hq => ?_, ?_⟩
      · rw [← hL] at hq
        exact (List.pairwise_cons.mp hap).1 q (mem_lane hq).1
      · rw [← hL]
        exact lane_apart ok.apart _ _
    have em : m = Km345.insert o L := insert_unique ascL hasc hm apL
    have elen : (Km345.insertNumber o b.orders).length = b.orders.length + 1 := (insertNumber_perm o b.orders).length_eq
    refine q H8 (fun x => R x ∨ x = a ∨ (H x = none ∧ ∃ u, H8 x = some u)) ⟨dx, sl, nd, gd, putK kvs (Sum.inl (o.number : Int)) (.bl true), putK gvs [Sum.inl (o.channel : Int), Sum.inl (o.bus : Int)] (.ref la'), ?_⟩ (fun x hx => ?_) (fun x u e hx => k18 x u e (fun z => hx (z ▸ B.rnd)) (fun z => hx (z ▸ B.rgd))) (fun x hx => ?_)
    · refine { hp := k18 _ _ B.hp npn npg, hsl := ?_, hnd := k8 _ _ (s17 _ _ n1) nng, hgd := g8, nk := fun n => ?_, nl := ?_, gl := ?_, lanes := fun c u => ?_, rp := .inl B.rp, rsl := .inl B.rsl, rnd := .inl B.rnd, rgd := .inl B.rgd, all := fun x hx => ?_ }
      · obtain ⟨dxs, hs⟩ := B.hsl
        exact ⟨dxs, k18 _ _ hs nsn nsg⟩
      · rw [valV_put]
        show _ = ({ b with orders := Km345.insertNumber o b.orders } : Board).knows n
        rw [knows_put, ← B.nk n]
        by_cases z : n = o.number
        · rw [if_pos (by rw [z]), decide_eq_true z]
          rfl
        · rw [if_neg (fun y => z (by have := Sum.inl.inj y; omega)), decide_eq_false z]
          rfl
      · show (putK kvs _ _).length ≤ (Km345.insertNumber o b.orders).length
        have := putK_length kvs (Sum.inl (o.number : Int)) (.bl true)
        omega
      · show (putK gvs _ _).length ≤ (Km345.insertNumber o b.orders).length
        have := putK_length gvs [Sum.inl (o.channel : Int), Sum.inl (o.bus : Int)] (.ref la')
        omega
      · rw [valV_put]
        show LaneAt C.T C.O H8 _ (lane (Km345.insertNumber o b.orders) c u) _
        rw [hlput c u]
        by_cases z : o.channel = c ∧ o.bus = u
        · rw [if_pos z, if_pos (by rw [z.1, z.2])]
          obtain ⟨rfl, rfl⟩ := z
          rw [hL, ← em]
          refine ⟨la', sas', rfl, k8 _ _ hla' (ne_of hla' (s17 _ _ hg1) (by intro z; cases z)), paired_mono (fun st sa hsa => ?_) hps, .inr (.inr ⟨b6 _ nla, _, k8 _ _ hla' (ne_of hla' (s17 _ _ hg1) (by intro z; cases z))⟩)⟩
          obtain ⟨dx', oa, q1, ⟨dxq, q2⟩, q3, q4⟩ := hsa
          have q1' := k8 _ _ q1 (ne_of q1 (s17 _ _ hg1) (by intro z; cases z))
          have q2' := k8 _ _ q2 (ne_of q2 (s17 _ _ hg1) (by intro z; cases z))
          have cls : ∀ y v, (H6 y = none ∨ y ∈ oas ++ [a]) → H8 y = some v → R y ∨ y = a ∨ (H y = none ∧ ∃ u, H8 y = some u) := fun y v hy hv => by
            rcases hy with hy | hy
            · exact .inr (.inr ⟨b6 y hy, v, hv⟩)
            · rcases List.mem_append.mp hy with hy | hy
              · exact .inl (hro y hy)
              · exact .inr (.inl (List.mem_singleton.mp hy))
          exact ⟨dx', oa, q1', ⟨dxq, q2'⟩, cls _ _ q3 q1', cls _ _ q4 q2'⟩
        · rw [if_neg z, if_neg (fun y => z (by
            have y1 := (List.cons.inj y).1
            have y2 := (List.cons.inj (List.cons.inj y).2).1
            have := Sum.inl.inj y1
            have := Sum.inl.inj y2
            omega))]
          exact (B.lanes c u).kept B.hp B.hnd B.hgd (fun _ h => .inl h) fun x v e _ n2 n3 => k18 x v e n2 n3
      · rcases hx with hx | rfl | ⟨_, hx⟩
        · obtain ⟨v, hv⟩ := B.all x hx
          by_cases z1 : x = nd
          · exact ⟨_, by rw [z1]; exact k8 _ _ (s17 _ _ n1) nng⟩
          · by_cases z2 : x = gd
            · exact ⟨_, by rw [z2]; exact g8⟩
            · exact ⟨v, k18 x v hv z1 z2⟩
        · exact ⟨_, k18 _ _ ho nan (ne_of ho B.hgd (by intro z; cases z))⟩
        · exact hx
    · rcases hx with hx | hx | hx
      · exact .inl hx
      · exact .inr (.inl hx)
      · exact .inr (.inr hx.1)
    · cases e : H x with
      | none => rfl
      | some u =>
        by_cases z1 : x = nd
        · rw [z1, k8 _ _ (s17 _ _ n1) nng] at hx; cases hx
        · by_cases z2 : x = gd
          · rw [z2, g8] at hx; cases hx
          · rw [k18 x u e z1 z2] at hx; cases hx
end
end Sb

set_option Elab.async false
set_option maxRecDepth 100000
set_option maxHeartbeats 4000000
/-! sb_heard. -/
namespace L2
open PySem PySem.Spec PyProof.Rows
/-- isinstance(x, C), C an own class -/
theorem call_isi {X : Cx} : CallR X (.builtin "isinstance") (fun xs H Q => ∃ (x : V) (D : Addr) (t : Value) (b : Bool), xs = [x, .ref D] ∧ TyOf X.K H x t ∧ PySem.W.kitOne X.K t (.ref D) = some b ∧ Q (.bl b) H) := by
  intro pins s σ H xs us Q I r h
  obtain ⟨x, D, t, b, rfl, ty, e, q⟩ := h
  cases r with
  | cons rx rr =>
    cases rr with
    | cons rd rn =>
      cases rn
      cases rd
      exact isinst_ok I rx ty e fun tk => ⟨.bl b, H, I.tok tk, rfl, q⟩
end L2
namespace Sb
open PySem PySem.Spec PyProof.Rows L2
open Km345 (Board Order Seal)
/-- what isinstance(.., Seal) asks -/
structure TxI (K : PySem.W.Frag) (CO CS : Addr) : Prop where
  oa : PySem.W.findIn K (.ref CO) "__class__" = some (some (.builtin "object.__class__"))
  sa : PySem.W.findIn K (.ref CS) "__class__" = some (some (.builtin "object.__class__"))
  hn : PySem.W.specialIn K (.builtin "object.__class__") "__get__" = some (some (.builtin "getset_descriptor.__get__"))
  htk : PySem.W.takesIn K (.builtin "object.__class__") = some true
  om : PySem.W.mroIn K CO (.type "object") = some true
  sm : PySem.W.mroIn K CS (.type "object") = some true
  ko : PySem.W.kitOne K (.ref CO) (.ref CS) = some false
  ks : PySem.W.kitOne K (.ref CS) (.ref CS) = some true
section
variable {P : Program} {w : World} {K : PySem.W.Frag} {mg : Str → Option Value} {base : Heap} {C : Cl}
theorem scHd : FnScope ["self", "octets", "told"] ["self", "octets"] (defScope sBHeard) := ⟨rfl, rfl, rfl, by decide +kernel, rfl, by decide +kernel, by decide +kernel⟩
theorem ok_heard {f fR fS fO : Addr} {fd fdR fdS fdO : FuncData} (F : Fun K "sb_heard" "Board.sb_heard" sBHeard f fd) (T : TxBd K mg C) (TM : TxM K mg C.O) (TS : TxS K C.S) (TI : TxI K C.O C.S) (mC : mg "Seal" = some (.ref C.S))
    (GR : FnOk P w K mg base CX0 4 fR fdR ["octets"] (spRead K C.O C.S)) (kR : PySem.W.keepIn K (.ref fR) = true) (bR : Binds K fdR ["octets"] []) (mR : mg "read_message" = some (.ref fR))
    (GS : FnOk P w K mg base CX0 2 fS fdS ["self", "seal"] (spHSeal C)) (bS : Binds K fdS ["self", "seal"] []) (mS : Meth K C.B "hear_seal" fS)
    (GO : FnOk P w K mg base CX0 5 fO fdO ["self", "order"] (spHOrd C)) (bO : Binds K fdO ["self", "order"] []) (mO : Meth K C.B "hear_order" fO) :
    FnOk P w K mg base CX0 6 f fd ["self", "octets"] (spHeard C) := by
  obtain ⟨t1, h71⟩ := T.right
  refine F.ok scHd (fun vs H Q E h => ?_) (fun cdv A outer s H vs Q E hr h => ?_)
  · obtain ⟨p, a, b, R, l, rfl, _⟩ := h
    rfl
  · obtain ⟨p, a, b, R, l, rfl, ok, D, ha, h28, hby, k⟩ := h
    have hr4 : Room 4 _ := hr.mono (by decide)
    have hr2 : Room 2 _ := hr.mono (by decide)
    refine ⟨_, pss_cons (ps_set (i := 2) scHd.nd rfl (Or.inl rfl) (pe_call GR hr4 rfl mR kR bR .nil pass0 (pa_cons (pv 1) pa_nil)))
      (pss_cons (ps_if (pt_cmpR op_isN (pv 2) pe_non (nomark _)) (pss_one (ps_ret (pe_lst (pa_cons (pe_gint h71) pa_nil)))) pss_nil)
      (pss_cons (ps_if (pt_val (pe_callB call_isi rfl T.isi PyProof.Rows.boot_isinstance (pa_cons (pv 2) (pa_cons (pe_glob (v := .ref C.S) rfl mC rfl) pa_nil)))) (pss_one (ps_ret (pe_lst (pa_cons (pe_meth (pv 0) T.cl mS GS hr2 bS .nil pass0 (pa_cons (pv 2) pa_nil)) pa_nil)))) pss_nil)
      (pss_one (ps_ret (pe_lst (pa_cons (pe_meth (pv 0) T.cl mO GO hr bO .nil pass0 (pa_cons (pv 2) pa_nil)) pa_nil)))))), ?_⟩
    refine ⟨_, rfl, a, l, rfl, SqL.of ha, h28, hby, fun H1 x o eo s1 nx oat => ?_, fun H1 x z eo ez s1 nx zat => ?_, fun H1 eo ez s1 => ?_⟩
    · obtain ⟨dxo, hx⟩ := id oat
      have D1 := D.same s1
      obtain ⟨dx, sl, nd, gd, kvs, gvs, B⟩ := id D1
      rw [bHeard_some (hears_order eo)] at k
      refine ⟨_, rfl, rfl, _, rfl, iteF ?_⟩
      refine ⟨_, rfl, _, C.S, .ref C.O, false, rfl, .ins hx TM.clO TI.oa TI.hn TI.htk TI.om, TI.ko, _, rfl, iteF ?_⟩
      refine ⟨_, rfl, p, dx, _, rfl, B.hp, bfs_no (by decide +kernel) (by decide +kernel) (by decide +kernel) (by decide +kernel) (by decide +kernel), _, rfl, p, x, b, R, o, rfl, ok, D1, oat, orderOf_good eo, fun H2 R2 D2 r2 f2 b2 => ⟨(by show 1 ≤ sizeLine; decide), fun r nr => ?_⟩⟩
      refine k _ R2 r (D2.new nr) (fun y hy => ?_) (fun y u e hy => same_new nr y u (f2 y u (s1 y u e) hy)) upd_same (s1.free (b2 r nr)) (D2.not nr)
      rcases r2 y hy with h | h | h
      · exact .inl h
      · rw [h]; exact .inr nx
      · exact .inr (s1.free h)
    · obtain ⟨dxz, hx⟩ := id zat
      have D1 := D.same s1
      obtain ⟨dx, sl, nd, gd, kvs, gvs, B⟩ := id D1
      rw [bHeard_some (hears_seal eo ez)] at k
      refine ⟨_, rfl, rfl, _, rfl, iteF ?_⟩
      refine ⟨_, rfl, _, C.S, .ref C.S, true, rfl, .ins hx TS.cl TI.sa TI.hn TI.htk TI.sm, TI.ks, _, rfl, iteT ?_⟩
      refine ⟨_, rfl, p, dx, _, rfl, B.hp, bfs_no (by decide +kernel) (by decide +kernel) (by decide +kernel) (by decide +kernel) (by decide +kernel), _, rfl, p, x, b, R, z, rfl, D1, zat, fun H2 R2 D2 r2 f2 b2 => ⟨(by show 1 ≤ sizeLine; decide), fun r nr => ?_⟩⟩
      refine k _ R2 r (D2.new nr) (fun y hy => ?_) (fun y u e hy => same_new nr y u (f2 y u (s1 y u e) hy)) upd_same (s1.free (b2 r nr)) (D2.not nr)
      rcases r2 y hy with h | h
      · exact .inl h
      · rw [h]; exact .inr nx
    · rw [bHeard_none (hears_none eo ez)] at k
      refine ⟨_, rfl, rfl, _, rfl, iteT ⟨(by show 1 ≤ sizeLine; decide), fun r nr => ?_⟩⟩
      exact k.still D s1 nr
end
end Sb

set_option Elab.async false
/-! What comes out of the buses, over the specification alone. -/
namespace Sb
open Km345
/-! ### sums -/
theorem foldl_sum {α : Type} (f : α → Int) : ∀ (l : List α) (a : Int), l.foldl (fun s c => s + f c) a = a + (l.map f).sum
  | [], a => by simp
  | c :: l, a => by
    rw [List.foldl_cons, foldl_sum f l, List.map_cons, List.sum_cons]
    omega
theorem sum_spike (f : Nat → Int) (c0 : Nat) (d : Int) : ∀ n : Nat, ((List.range n).map fun c => f c + (if c = c0 then d else 0)).sum = ((List.range n).map f).sum + (if c0 < n then d else 0)
  | 0 => by simp
  | n + 1 => by
    rw [List.range_succ, List.map_append, List.map_append, List.sum_append, List.sum_append, sum_spike f c0 d n]
    simp only [List.map_cons, List.map_nil, List.sum_cons, List.sum_nil]
    by_cases h1 : n = c0
    · rw [if_pos h1, if_neg (by omega), if_pos (by omega)]
      omega
    · rw [if_neg h1]
      by_cases h2 : c0 < n
      · rw [if_pos h2, if_pos (by omega)]
        omega
      · rw [if_neg h2, if_neg (by omega)]
        omega
/-- a bus's sum at a sample, by the first k numbers handed in -/
def accAt (b : Board) (r : List Int) (u t k i : Nat) : Int := ((List.range b.channels).map fun c => (if 48 * c + i < k then r.getD (48 * c + i) 0 else 0) * gainAt b.orders c u (t + i)).sum
theorem accAt_zero (b : Board) (r : List Int) (u t i : Nat) : accAt b r u t 0 i = 0 := by
  unfold accAt
  have : ((List.range b.channels).map fun c => (if 48 * c + i < 0 then r.getD (48 * c + i) 0 else 0) * gainAt b.orders c u (t + i)) = (List.range b.channels).map fun _ => (0 : Int) := by
    apply List.map_congr_left
    intro c _
    rw [if_neg (by omega), Int.zero_mul]
  rw [this]
  induction b.channels with
  | zero => rfl
  | succ n ih => rw [List.range_succ, List.map_append, List.sum_append, ih]; rfl
theorem accAt_succ (b : Board) (r : List Int) (u t k i : Nat) (hi : i < 48) (hk : k / 48 < b.channels) :
    accAt b r u t (k + 1) i = if i = k % 48 then accAt b r u t k i + r.getD k 0 * gainAt b.orders (k / 48) u (t + i) else accAt b r u t k i := by
  have e : accAt b r u t (k + 1) i = ((List.range b.channels).map fun c => (if 48 * c + i < k then r.getD (48 * c + i) 0 else 0) * gainAt b.orders c u (t + i) + (if c = k / 48 then (if i = k % 48 then r.getD k 0 * gainAt b.orders (k / 48) u (t + i) else 0) else 0)).sum := by
    unfold accAt
    congr 1
    apply List.map_congr_left
    intro c _
    by_cases h1 : 48 * c + i < k
    · rw [if_pos (by omega), if_pos h1]
      by_cases h2 : c = k / 48
      · rw [if_pos h2, if_neg (by omega)]
        omega
      · rw [if_neg h2]
        omega
    · rw [if_neg h1]
      by_cases h3 : 48 * c + i = k
      · have h4 : c = k / 48 := by omega
        rw [if_pos (by omega), if_pos h4, if_pos (by omega), h3, ← h4]
        omega
      · rw [if_neg (by omega)]
        by_cases h4 : c = k / 48
        · rw [if_pos h4, if_neg (by omega)]
          omega
        · rw [if_neg h4]
          omega
  rw [e, sum_spike, if_pos hk]
  by_cases h : i = k % 48
  · rw [if_pos h, if_pos h]
    rfl
  · rw [if_neg h, if_neg h, Int.add_zero]
    rfl
def accs (b : Board) (r : List Int) (u t k : Nat) : List Int := (List.range 48).map (accAt b r u t k)
theorem accs_length (b : Board) (r : List Int) (u t k : Nat) : (accs b r u t k).length = 48 := by
  unfold accs
  rw [List.length_map, List.length_range]
theorem accs_get (b : Board) (r : List Int) (u t k : Nat) {i : Nat} (hi : i < 48) : (accs b r u t k)[i]? = some (accAt b r u t k i) := by
  unfold accs
  rw [List.getElem?_map, List.getElem?_range hi]
  rfl
theorem accs_zero (b : Board) (r : List Int) (u t : Nat) : accs b r u t 0 = List.replicate 48 0 := by
  unfold accs
  have : (List.range 48).map (accAt b r u t 0) = (List.range 48).map fun _ => (0 : Int) := List.map_congr_left fun i _ => accAt_zero b r u t i
  rw [this]
  rfl
theorem accs_succ (b : Board) (r : List Int) (u t k : Nat) (hk : k / 48 < b.channels) :
    accs b r u t (k + 1) = (accs b r u t k).set (k % 48) (accAt b r u t k (k % 48) + r.getD k 0 * gainAt b.orders (k / 48) u (t + k % 48)) := by
  apply List.ext_getElem
  · rw [List.length_set, accs_length, accs_length]
  · intro i h1 h2
    rw [accs_length] at h1
    rw [List.getElem_set]
    simp only [accs, List.getElem_map, List.getElem_range]
    rw [accAt_succ b r u t k i h1 hk]
    by_cases h : i = k % 48
    · rw [if_pos h, if_pos h.symm, h]
    · rw [if_neg h, if_neg (fun z => h z.symm)]
/-- what is handed in, 0 behind it -/
def padded (r : List Int) : List Int := r ++ List.replicate (1536 - r.length) 0
theorem padded_getD (r : List Int) (j : Nat) : (padded r).getD j 0 = r.getD j 0 := by
  unfold padded
  rw [List.getD_eq_getElem?_getD, List.getD_eq_getElem?_getD, List.getElem?_append]
  split
  · rfl
  · rename_i h
    rw [List.getElem?_replicate, List.getElem?_eq_none (Nat.le_of_not_lt h)]
    split <;> rfl
/-- a bus's 48 samples before they're cut -/
def valsOf (b : Board) (r : List Int) (u t : Nat) : List Int := (List.range 48).map fun i => b.sum ((List.range b.channels).map fun c => (padded r).getD (48 * c + i) 0) u (t + i)
theorem accs_end (b : Board) (r : List Int) (u t : Nat) : (accs b r u t (min r.length (b.channels * 48))).map (fun z => z / 65536) = valsOf b r u t := by
  unfold accs valsOf
  rw [List.map_map]
  apply List.map_congr_left
  intro i hi
  have hi : i < 48 := List.mem_range.mp hi
  show accAt b r u t (min r.length (b.channels * 48)) i / 65536 = ((List.range b.channels).foldl (fun (s : Int) c => s + ((List.range b.channels).map fun c => (padded r).getD (48 * c + i) 0).getD c 0 * gainAt b.orders c u (t + i)) 0) / (UNIT : Int)
  rw [foldl_sum, Int.zero_add]
  show _ / 65536 = _ / 65536
  congr 1
  unfold accAt
  congr 1
  apply List.map_congr_left
  intro c hc
  have hc : c < b.channels := List.mem_range.mp hc
  congr 1
  have e : ((List.range b.channels).map fun c => (padded r).getD (48 * c + i) 0).getD c 0 = (padded r).getD (48 * c + i) 0 := by
    rw [List.getD_eq_getElem?_getD, List.getElem?_map, List.getElem?_range hc]
    rfl
  rw [e, padded_getD]
  by_cases h : 48 * c + i < min r.length (b.channels * 48)
  · rw [if_pos h]
  · rw [if_neg h, List.getD_eq_getElem?_getD, List.getElem?_eq_none]
    · rfl
    · omega
/-! ### bus by bus -/
def busesTo (b : Board) (r : List Int) (t n : Nat) : List Int := (List.range n).flatMap fun u => valsOf b r u t
theorem busesTo_succ (b : Board) (r : List Int) (t n : Nat) : busesTo b r t (n + 1) = busesTo b r t n ++ valsOf b r n t := by
  unfold busesTo
  rw [List.range_succ, List.flatMap_append]
  simp
theorem valsOf_length (b : Board) (r : List Int) (u t : Nat) : (valsOf b r u t).length = 48 := by
  unfold valsOf
  rw [List.length_map, List.length_range]
theorem busesTo_length (b : Board) (r : List Int) (t : Nat) : ∀ n, (busesTo b r t n).length = 48 * n
  | 0 => rfl
  | n + 1 => by
    rw [busesTo_succ, List.length_append, busesTo_length b r t n, valsOf_length]
    omega
theorem sums_eq (b : Board) (r : List Int) (t : Nat) : b.sums (padded r) t = busesTo b r t b.buses := rfl
def cutsOf (l : List Int) : Nat := (l.filter fun v => cut v != v).length
theorem cutsOf_snoc (l : List Int) (v : Int) : cutsOf (l ++ [v]) = cutsOf l + (if cut v = v then 0 else 1) := by
  unfold cutsOf
  rw [List.filter_append, List.length_append]
  congr 1
  by_cases h : cut v = v
  · rw [if_pos h]
    simp [h]
  · rw [if_neg h]
    simp [h]
theorem cut_eq (v : Int) : cut v = (if 8388607 < (if (-8388608 : Int) > v then -8388608 else v) then 8388607 else (if (-8388608 : Int) > v then -8388608 else v)) := by
  unfold cut
  by_cases h1 : v < -8388608
  · rw [if_pos h1, if_pos (show (-8388608 : Int) > v from h1), if_neg (by omega)]
  · rw [if_neg h1, if_neg (show ¬ (-8388608 : Int) > v from h1)]
theorem cutsOf_le (l : List Int) : cutsOf l ≤ l.length := List.length_filter_le _ _
theorem bMix_22 {b : Board} {x : List Int} {t : Nat} (h : t % 48 ≠ 0 ∨ 281474976710656 ≤ t) : (bDoes b (.bMix x t)).2 = only (-22) := if_pos h
theorem bMix_ok {b : Board} {r : List Int} {t : Nat} (h : ¬ (t % 48 ≠ 0 ∨ 281474976710656 ≤ t)) (hb : b.buses ≤ 8) :
    Km345Neutral.told (bDoes b (.bMix (padded r) t)).2 = (((cutsOf (busesTo b r t b.buses) + (if b.whole (t + 48) = true then 0 else 1000) : Nat) : Int)) :: ((busesTo b r t b.buses).map cut ++ List.replicate (384 - 48 * b.buses) 0) := by
  have e : (bDoes b (.bMix (padded r) t)).2 = { value := (((b.cuts (padded r) t) + (if b.whole (t + 48) = true then 0 else 1000) : Nat) : Int), out := b.shown (padded r) t } := if_neg h
  rw [e]
  show _ :: ([] ++ b.shown (padded r) t) = _
  rw [List.nil_append]
  congr 1
  unfold Board.shown Board.mix
  rw [sums_eq]
  have hl := busesTo_length b r t b.buses
  rw [List.take_append, List.take_of_length_le (by rw [List.length_map, hl]; show 48 * b.buses ≤ 384; omega), List.length_map, hl]
  congr 1
  rw [List.take_replicate]
  congr 1
  show min (384 - 48 * b.buses) 384 = _
  omega
end Sb

set_option Elab.async false
set_option maxRecDepth 100000
set_option maxHeartbeats 4000000
/-! bus_values. -/
namespace L2
open PySem PySem.Spec PyProof.Rows
def rGetL (K : PySem.W.Frag) : V → V → Hp → VK → Prop := fun x y H Q => ∃ (p : Addr) (xs : List V) (i : Nat) (v : V), x = .ref p ∧ y = .int (i : Int) ∧ SqL K H p xs ∧ xs[i]? = some v ∧ Q v H
theorem get_list {X : Cx} : PGet X (rGetL X.K) := by
  intro pins s σ H x y v u Q I rx ry h
  obtain ⟨p, xs, i, z, rfl, rfl, hq, he, q⟩ := h
  cases rx
  obtain ⟨t, rfl⟩ := ry
  obtain ⟨its, r, pl, hz⟩ := I.list hq
  obtain ⟨w, ew, rw'⟩ := r.get he
  have hl := r.length
  have hn := line63
  have hlt : i < xs.length := (List.getElem?_eq_some_iff.mp he).1
  exact wpAny_getItem_list pl.isList (by omega) (by omega) (by rw [Int.toNat_natCast]; simpa using ew) ⟨z, H, I, rw', q⟩
end L2
namespace Sb
open PySem PySem.Spec PyProof.Rows L2
open Km345 (Board Order Seal)
def spVals (C : Cl) : Sp := fun vs H Q _ => ∃ (p sa : Addr) (b : Board) (R : Addr → Prop) (u t : Nat) (r : List Int), vs = [.ref p, .int (u : Int), .ref sa, .int (t : Int)] ∧ BOk b ∧ BoardAt C H p b R ∧ H sa = some (.lst (r.map V.int)) ∧ r.length ≤ 1536 ∧ (∀ x ∈ r, -(2 ^ 31) ≤ x ∧ x < 2 ^ 31) ∧
  ∀ (H' : Hp) (vl : Addr), Same H H' → H vl = none → H' vl = some (.lst ((valsOf b r u t).map V.int)) → Q (.ref vl) H'
theorem getI {l : List Int} {i : Nat} (h : i < l.length) : l[i]? = some (l.getD i 0) := by
  simp [h]
theorem vI_get {l : List Int} {i : Nat} {x : Int} (h : l[i]? = some x) : (l.map V.int)[i]? = some (V.int x) := by
  rw [List.getElem?_map, h]
  rfl
section
variable {P : Program} {w : World} {K : PySem.W.Frag} {mg : Str → Option Value} {base : Heap} {C : Cl}
theorem scBV : FnScope ["self", "bus", "samples", "time", "sums", "place", "sample", "total"] ["self", "bus", "samples", "time"] (defScope sBVals) := ⟨rfl, rfl, rfl, by decide +kernel, rfl, by decide +kernel, by decide +kernel⟩
theorem ok_vals {f fG : Addr} {fd fdG : FuncData} (F : Fun K "bus_values" "Board.bus_values" sBVals f fd) (T : TxBd K mg C) (hR : mg "range" = none)
    (GG : FnOk P w K mg base CX0 3 fG fdG ["self", "channel", "bus", "time"] (spGAt C)) (bG : Binds K fdG ["self", "channel", "bus", "time"] []) (mG : Meth K C.B "gain_at" fG) :
    FnOk P w K mg base CX0 4 f fd ["self", "bus", "samples", "time"] (spVals C) := by
  obtain ⟨t1, hB⟩ := T.block
  obtain ⟨t2, hU⟩ := T.unit
  refine F.ok scBV (fun vs H Q E h => ?_) (fun cdv A outer s H vs Q E hr h => ?_)
  · obtain ⟨p, sa, b, R, u, t, r, rfl, _⟩ := h
    rfl
  · obtain ⟨p, sa, b, R, u, t, r, rfl, ok, D, hsa, hlen, hrg, q⟩ := h
    obtain ⟨dx, sl, nd, gd, kvs, gvs, B⟩ := id D
    have hch := ok.ch
    refine ⟨_, pss_cons (ps_set (i := 4) scBV.nd rfl (Or.inl rfl) (pe_op op_rep (pe_lst (pa_cons pe_int pa_nil)) (pe_gint hB)))
      (pss_cons (ps_for PassesOwn.never rfl (pi_range1 rfl hR (pa_cons (pe_callB (call_min2 rfl) rfl T.min PyProof.Rows.boot_min (pa_cons (pe_callB call_len_seq rfl T.len PySem.boot_len (pa_cons (pv 2) pa_nil)) (pa_cons (pe_op op_mul (pe_fld (pv 0) rfl) (pe_gint hB)) pa_nil))) pa_nil)) (pg_name (i := 5) scBV.nd rfl (Or.inl rfl))
        (pss_cons (ps_set (i := 6) scBV.nd rfl (Or.inl rfl) (pe_op op_mod (pv 5) (pe_gint hB)))
        (pss_one (ps_augS (pv 4) (pv 6) get_list (pe_op op_mul (pe_ix ix_list (pv 2) (pv 5) (fun _ _ => rfl)) (pe_meth (pv 0) T.cl mG GG hr bG .nil pass0 (pa_cons (pe_op op_fdiv (pv 5) (pe_gint hB)) (pa_cons (pv 1) (pa_cons (pe_op op_add (pv 3) (pv 6)) pa_nil))))) ip_add set_list))))
      (pss_one (ps_ret (pe_lc (own := [("total", 7)]) (te := tOp (rI CDiv fun i j => .int (i / j)) (tVar 7) (tC (.int 65536))) rfl scBV.nd (pi_list (pv 4)) (blkOk_by (N := ["self", "bus", "samples", "time", "sums", "place", "sample", "total"]) (sc := defScope sBVals) (by decide +kernel))
        (fun _ _ _ _ _ => pg_name (i := 7) scBV.nd rfl (Or.inl rfl)) (fun _ _ _ _ _ => pts_nil) (fun _ _ _ _ _ => pe_op op_fdiv (pv 7) (pe_gint hU)))))), ?_⟩
    refine ⟨(by show 1 ≤ sizeLine; decide), fun z1 nz1 => ?_⟩
    have s1 : Same H (upd H z1 (.lst [.int 0])) := same_new nz1
    refine ⟨z1, 48, _, rfl, rfl, upd_same, by decide, by decide, (by show 1 * 48 ≤ sizeLine; decide), fun sm nsm => ?_⟩
    have hsm : H sm = none := s1.free nsm
    have s2 := s1.trans (same_new (o := .lst (List.replicate (48 : Int).toNat [V.int 0]).flatten) nsm)
    have h2 : upd (upd H z1 (.lst [.int 0])) sm (.lst (List.replicate (48 : Int).toNat [V.int 0]).flatten) sm = some (.lst ((accs b r u t 0).map V.int)) := by
      rw [upd_same, accs_zero]
      rfl
    generalize upd (upd H z1 (.lst [.int 0])) sm (.lst (List.replicate (48 : Int).toNat [V.int 0]).flatten) = H2 at s2 h2
    refine ⟨_, rfl, sa, _, rfl, .inl (SqL.of (s2 _ _ hsa)), _, rfl, p, C.B, dx, _, _, rfl, s2 _ _ B.hp, T.cl, T.nChannels, bfs_channels, _, _, rfl, rfl, .inl ⟨by omega, by omega⟩, _, _, rfl, ((min r.length (b.channels * 48) : Nat) : Int), ?_, by omega, by omega, ?_⟩
    · rw [List.length_map]
      by_cases h : (b.channels : Int) * 48 < (r.length : Int)
      · rw [if_pos h, Nat.min_eq_right (by omega), Int.natCast_mul]
        rfl
      · rw [if_neg h, Nat.min_eq_left (by omega)]
    refine for_range (n := min r.length (b.channels * 48)) (fun k σ H' => ∃ v5 v6 v7 : Option V, σ = [some (.ref p), some (.int (u : Int)), some (.ref sa), some (.int (t : Int)), some (.ref sm), v5, v6, v7] ∧ Same H H' ∧ H' sm = some (.lst ((accs b r u t k).map V.int))) ⟨none, none, none, rfl, s2, h2⟩ ?_ ?_
    · rintro k σ H' hk ⟨v5, v6, v7, rfl, s3, h3⟩
      have e0 : (0 : Int) + (k : Int) = (k : Int) := Int.zero_add _
      rw [e0]
      have hk1 : k < r.length := by omega
      have hkc : k / 48 < b.channels := by omega
      have hm48 : k % 48 < 48 := Nat.mod_lt _ (by decide)
      have e1 : (k : Int) / 48 = ((k / 48 : Nat) : Int) := by omega
      have e2 : (k : Int) % 48 = ((k % 48 : Nat) : Int) := by omega
      refine ⟨_, rfl, _, _, rfl, rfl, (by show (0 : Int) < 48; decide), ?_⟩
      dsimp only
      rw [e2]
      have hx := getI hk1
      have hxr := hrg _ (List.mem_of_getElem? hx)
      refine ⟨_, rfl, _, rfl, sm, _, k % 48, _, rfl, rfl, SqL.of h3, vI_get (accs_get b r u t k hm48), _, rfl, _, rfl, sa, _, _, _, rfl, rfl, SqL.of (s3 _ _ hsa), at_of (j := k) rfl (vI_get hx),
        _, rfl, p, dx, _, rfl, s3 _ _ B.hp, bfs_no (by decide +kernel) (by decide +kernel) (by decide +kernel) (by decide +kernel) (by decide +kernel), _, rfl, _, _, rfl, rfl, ⟨by decide, by decide⟩, _, rfl, _, rfl, _, rfl, _, _, rfl, rfl, p, b, R, k / 48, u, t + k % 48, ?_, ok, D.same s3, fun H4 s4 => ?_⟩
      · show [V.ref p, V.int ((k : Int) / 48), V.int (u : Int), V.int ((t : Int) + ((k % 48 : Nat) : Int))] = _
        rw [e1, ← Int.natCast_add]
      refine ⟨_, _, rfl, rfl, .inl ⟨by omega, by omega⟩, _, _, rfl, rfl, sm, _, _, k % 48, rfl, rfl, s4 _ _ h3, ixN_nat (by rw [List.length_map, accs_length]; exact hm48), ?_⟩
      refine ⟨_, _, _, rfl, fun x o e => ?_, ?_⟩
      · rw [upd_ne (ne_of_none e hsm)]
        exact s4 _ _ (s3 _ _ e)
      · rw [upd_same, accs_succ b r u t k hkc, List.map_set]
    · rintro σ H' ⟨v5, v6, v7, rfl, s3, h3⟩
      refine ⟨_, rfl, sm, rfl, ⟨_, SqL.of h3⟩, fun D1 hD1 => ?_⟩
      refine lc_list (K := K) (a := sm) (xs := (accs b r u t (min r.length (b.channels * 48))).map V.int) (fun i H'' => Same H' H'' ∧ H'' D1 = some (.lst ((((accs b r u t (min r.length (b.channels * 48))).take i).map (fun z => z / 65536)).map V.int))) ⟨same_new hD1, upd_same⟩ ?_ ?_ ?_
      · rintro i H'' _ ⟨s4, _⟩
        exact SqL.of (s4 _ _ h3)
      · rintro i x H'' hx ⟨s4, h4⟩
        have hil : i < 48 := by
          have := (List.getElem?_eq_some_iff.mp hx).1
          rw [List.length_map, accs_length] at this
          exact this
        have hg := accs_get b r u t (min r.length (b.channels * 48)) hil
        rw [vI_get hg] at hx
        cases hx
        refine ⟨rfl, yes_go ?_⟩
        refine ⟨_, rfl, _, _, rfl, rfl, ⟨by decide, by decide⟩, _, h4, ?_, ?_, ?_⟩
        · rw [List.length_map, List.length_map, List.length_take, accs_length]
          exact line_lt (by omega)
        · exact fun x o e => by rw [upd_ne (ne_of_none e hD1)]; exact s4 x o e
        · rw [upd_same, take_snoc hg, List.map_append, List.map_append]
          rfl
      · rintro H'' ⟨s4, h4⟩
        rw [List.length_map, List.take_length, accs_end] at h4
        exact q H'' D1 (s3.trans s4) (s3.free hD1) h4
end
end Sb

set_option Elab.async false
set_option maxRecDepth 100000
set_option maxHeartbeats 4000000
/-! sb_mix. -/
namespace Sb
open PySem PySem.Spec PyProof.Rows L2
open Km345 (Board Order Seal)
def spMix (C : Cl) : Sp := fun vs H Q _ => ∃ (p sa : Addr) (b : Board) (R : Addr → Prop) (t : Nat) (r : List Int), vs = [.ref p, .ref sa, .int (t : Int)] ∧ BOk b ∧ BoardAt C H p b R ∧ H sa = some (.lst (r.map V.int)) ∧ r.length ≤ 1536 ∧ (∀ x ∈ r, -(2 ^ 31) ≤ x ∧ x < 2 ^ 31) ∧
  RetB C H p R b (Km345Neutral.told (Km345.bDoes b (.bMix (padded r) t)).2) Q
theorem rep0I (n : Nat) : (List.replicate n [V.int 0]).flatten = (List.replicate n (0 : Int)).map V.int := by
  induction n with
  | zero => rfl
  | succ n ih =>
    rw [List.replicate_succ, List.flatten_cons, ih, List.replicate_succ]
    rfl
section
variable {P : Program} {w : World} {K : PySem.W.Frag} {mg : Str → Option Value} {base : Heap} {C : Cl}
theorem scMx : FnScope ["self", "samples", "time", "out", "cuts", "bus", "value", "first"] ["self", "samples", "time"] (defScope sBMix) := ⟨rfl, rfl, rfl, by decide +kernel, rfl, by decide +kernel, by decide +kernel⟩
theorem ok_mix {f fV fW : Addr} {fd fdV fdW : FuncData} (F : Fun K "sb_mix" "Board.sb_mix" sBMix f fd) (T : TxBd K mg C) (hR : mg "range" = none)
    (GV : FnOk P w K mg base CX0 4 fV fdV ["self", "bus", "samples", "time"] (spVals C)) (bV : Binds K fdV ["self", "bus", "samples", "time"] []) (mV : Meth K C.B "bus_values" fV)
    (GW : FnOk P w K mg base CX0 2 fW fdW ["self", "time"] (spWhole C)) (bW : Binds K fdW ["self", "time"] []) (mW : Meth K C.B "is_whole" fW) :
    FnOk P w K mg base CX0 5 f fd ["self", "samples", "time"] (spMix C) := by
  obtain ⟨t1, hB⟩ := T.block
  obtain ⟨t2, hT⟩ := T.tend
  obtain ⟨t3, h22⟩ := T.told
  obtain ⟨t4, hLo⟩ := T.low
  obtain ⟨t5, hHi⟩ := T.high
  obtain ⟨t6, hNW⟩ := T.whole
  obtain ⟨t7, hO⟩ := T.outs
  refine F.ok scMx (fun vs H Q E h => ?_) (fun cdv A outer s H vs Q E hr h => ?_)
  · obtain ⟨p, sa, b, R, t, r, rfl, _⟩ := h
    rfl
  · obtain ⟨p, sa, b, R, t, r, rfl, ok, D, hsa, hlen, hrg, k⟩ := h
    obtain ⟨dx, sl, nd, gd, kvs, gvs, B⟩ := id D
    have hbu := ok.bu
    have hr2 : Room 2 _ := hr.mono (by decide)
    have nob : ∀ {m : Str}, (m == ("channels" : Str)) = false → (m == ("buses" : Str)) = false → (m == ("seal" : Str)) = false → (m == ("numbers" : Str)) = false → (m == ("gains" : Str)) = false → (bfs b.channels b.buses sl nd gd).lookup m = none := fun h1 h2 h3 h4 h5 => bfs_no h1 h2 h3 h4 h5
    refine ⟨_, pss_cons (ps_if (pw_or (pt_cmpR op_ge (pv 2) (pe_gint hT) (nomark _)) (pw_or1 (pt_cmpR op_ne (pe_op op_mod (pv 2) (pe_gint hB)) pe_int (nomark _)))).pt (pss_one (ps_ret (pe_lst (pa_cons (pe_gint h22) pa_nil)))) pss_nil)
      (pss_cons (ps_set (i := 3) scMx.nd rfl (Or.inl rfl) (pe_lst pa_nil))
      (pss_cons (ps_set (i := 4) scMx.nd rfl (Or.inl rfl) pe_int)
      (pss_cons (ps_for PassesOwn.never rfl (pi_range1 rfl hR (pa_cons (pe_fld (pv 0) rfl) pa_nil)) (pg_name (i := 5) scMx.nd rfl (Or.inl rfl))
        (pss_one (ps_for PassesOwn.never rfl (pi_list (pe_meth (pv 0) T.cl mV GV hr bV .nil pass0 (pa_cons (pv 5) (pa_cons (pv 1) (pa_cons (pv 2) pa_nil))))) (pg_name (i := 6) scMx.nd rfl (Or.inl rfl))
          (pss_cons (ps_expr (pe_bm PySem.F.plainAttrs_list PySem.F.slot_list_append PySem.F.type_list_append mt_append (pv 3) (pa_cons (pe_callB (call_min2 rfl) rfl T.min PyProof.Rows.boot_min (pa_cons (pe_callB (call_max2 rfl) rfl T.max PyProof.Rows.boot_max (pa_cons (pv 6) (pa_cons (pe_gint hLo) pa_nil))) (pa_cons (pe_gint hHi) pa_nil))) pa_nil)))
          (pss_one (ps_if (pt_cmpR op_ne (pe_ix ix_list (pv 3) (pe_un un_neg pe_int) (fun _ _ => rfl)) (pv 6) (nomark _)) (pss_one (ps_aug (i := 4) scMx.nd rfl (Or.inl rfl) pe_int ip_add)) pss_nil))))))
      (pss_cons (ps_set (i := 7) scMx.nd rfl (Or.inl rfl) (pe_ifExp (pt_val (pe_meth (pv 0) T.cl mW GW hr2 bW .nil pass0 (pa_cons (pe_op op_add (pv 2) (pe_gint hB)) pa_nil))) (pv 4) (pe_op op_add (pv 4) (pe_gint hNW))))
      (pss_one (ps_ret (pe_op op_cat (pe_op op_cat (pe_lst (pa_cons (pv 7) pa_nil)) (pv 3)) (pe_op op_rep (pe_lst (pa_cons pe_int pa_nil)) (pe_op op_sub (pe_gint hO) (pe_callB call_len_seq rfl T.len PySem.boot_len (pa_cons (pv 3) pa_nil))))))))))), ?_⟩
    have refuse : (t % 48 ≠ 0 ∨ 281474976710656 ≤ t) → (1 ≤ sizeLine) ∧ ∀ r, H r = none → Q (.ref r) (upd H r (.lst [.int (-22)])) := fun h => by
      rw [bMix_22 h] at k
      exact ⟨by decide, fun r hr => k.refuse D hr⟩
    refine ⟨_, rfl, _, _, rfl, rfl, _, rfl, ite2 (fun a => iteT (refuse (.inr (by have := of_decide_eq_true a; omega)))) (fun a1 => ?_)⟩
    have a1 : ¬ 281474976710656 ≤ t := fun z => a1 (decide_eq_true (by omega))
    refine ⟨_, rfl, _, _, rfl, rfl, (by show (0 : Int) < 48; decide), rfl, _, rfl, iteN (fun a => refuse (.inl (fun z => a (by show V.int ((t : Int) % 48) = V.int 0; congr 1; omega)))) (fun a2 => ?_)⟩
    have a2 : t % 48 = 0 := by
      have := V.int.inj a2
      omega
    rw [bMix_ok (by omega) hbu] at k
    refine ⟨(by show 0 ≤ sizeLine; decide), fun out nout => ?_⟩
    have s1 : Same H (upd H out (.lst [])) := same_new nout
    have h1 : upd H out (.lst []) out = some (.lst (((busesTo b r t 0).map Km345.cut).map V.int)) := upd_same
    generalize upd H out (.lst []) = H1 at s1 h1
    refine ⟨_, rfl, p, C.B, dx, _, _, rfl, s1 _ _ B.hp, T.cl, T.nBuses, bfs_buses, (b.buses : Int), rfl, by omega, by omega,
      for_range (n := b.buses) (fun j σ H' => ∃ v5 v6 v7 : Option V, σ = [some (.ref p), some (.ref sa), some (.int (t : Int)), some (.ref out), some (.int ((cutsOf (busesTo b r t j) : Nat) : Int)), v5, v6, v7] ∧ Same H H' ∧ H' out = some (.lst (((busesTo b r t j).map Km345.cut).map V.int))) ⟨none, none, none, rfl, s1, h1⟩ ?_ ?_⟩
    · rintro j σ H' hj ⟨v5, v6, v7, rfl, s2, h2⟩
      have e0 : (0 : Int) + (j : Int) = (j : Int) := Int.zero_add _
      rw [e0]
      refine ⟨_, rfl, p, dx, _, rfl, s2 _ _ B.hp, nob (by decide +kernel) (by decide +kernel) (by decide +kernel) (by decide +kernel) (by decide +kernel), _, rfl, _, rfl, _, rfl, p, sa, b, R, j, t, r, rfl, ok, D.same s2, s2 _ _ hsa, hlen, hrg, fun H3 vl s3' nvl hvl => ?_⟩
      have s3 := s2.trans s3'
      have hvo : vl ≠ out := fun z => by rw [z, h2] at nvl; cases nvl
      refine ⟨vl, rfl, ⟨_, SqL.of hvl⟩, for_list (K := K) (a := vl) (xs := (valsOf b r j t).map V.int) (fun i σ H'' => ∃ v6 v7 : Option V, σ = [some (.ref p), some (.ref sa), some (.int (t : Int)), some (.ref out), some (.int ((cutsOf (busesTo b r t j ++ (valsOf b r j t).take i) : Nat) : Int)), some (.int (j : Int)), v6, v7] ∧ Same H H'' ∧
          H'' vl = some (.lst ((valsOf b r j t).map V.int)) ∧ H'' out = some (.lst (((busesTo b r t j ++ (valsOf b r j t).take i).map Km345.cut).map V.int))) ⟨v6, v7, ?_, s3, hvl, ?_⟩ ?_ ?_ ?_⟩
      · rw [List.take_zero, List.append_nil]
        rfl
      · rw [List.take_zero, List.append_nil]
        exact s3' _ _ h2
      · rintro i σ H'' _ ⟨_, _, _, _, h4, _⟩
        exact SqL.of h4
      · rintro i x σ H'' hx ⟨v6, v7, rfl, s4, h4, h5⟩
        have hil : i < 48 := by
          have := (List.getElem?_eq_some_iff.mp hx).1
          rw [List.length_map, valsOf_length] at this
          exact this
        have hg : (valsOf b r j t)[i]? = some ((valsOf b r j t).getD i 0) := getI (by rw [valsOf_length]; exact hil)
        rw [vI_get hg] at hx
        cases hx
        generalize (valsOf b r j t).getD i 0 = v at hg
        have etk : busesTo b r t j ++ (valsOf b r j t).take (i + 1) = (busesTo b r t j ++ (valsOf b r j t).take i) ++ [v] := by rw [take_snoc hg, List.append_assoc]
        have hl2 : ((busesTo b r t j ++ (valsOf b r j t).take i)).length ≤ 1000 := by
          rw [List.length_append, busesTo_length, List.length_take, valsOf_length]
          omega
        rw [etk]
        generalize busesTo b r t j ++ (valsOf b r j t).take i = pre at h5 hl2
        refine ⟨_, rfl, .inl ⟨rfl, _, SqL.of h5⟩, _, rfl, _, _, rfl, _, _, rfl, out, _, _, rfl, rfl, h5, ?_, ?_⟩
        · rw [List.length_map, List.length_map]
          exact line_lt (by omega)
        rw [← cut_eq]
        have hnx : ∀ x u, H'' x = some u → x ≠ out → upd H'' out (.lst ((pre.map Km345.cut).map V.int ++ [V.int (Km345.cut v)])) x = some u := fun x u e n => by rw [upd_ne n]; exact e
        have s6 : Same H (upd H'' out (.lst ((pre.map Km345.cut).map V.int ++ [V.int (Km345.cut v)]))) := fun x u e => hnx x u (s4 _ _ e) (ne_of_none e nout)
        have h6 : upd H'' out (.lst ((pre.map Km345.cut).map V.int ++ [V.int (Km345.cut v)])) out = some (.lst (((pre ++ [v]).map Km345.cut).map V.int)) := by
          rw [upd_same, List.map_append, List.map_append]
          rfl
        refine ⟨_, rfl, 1, rfl, out, _, _, _, rfl, rfl, SqL.of upd_same, atI_last _ _, _, rfl, rfl, _, rfl, iteN (fun a => ?_) (fun a => ?_)⟩
        · have hc : cutsOf (pre ++ [v]) = cutsOf pre + 1 := by rw [cutsOf_snoc, if_neg (fun z => a (by rw [z]))]
          refine ⟨_, rfl, _, _, rfl, rfl, some (.int v), v7, ?_, s6, hnx _ _ h4 hvo, h6⟩
          rw [hc]
          rfl
        · have hc : cutsOf (pre ++ [v]) = cutsOf pre := by rw [cutsOf_snoc, if_pos (V.int.inj a), Nat.add_zero]
          refine ⟨some (.int v), v7, ?_, s6, hnx _ _ h4 hvo, h6⟩
          rw [hc]
          rfl
      · rintro σ H'' ⟨v6, v7, rfl, s4, h4, h5⟩
        rw [List.length_map, List.take_length, ← busesTo_succ] at h5 ⊢
        exact ⟨_, _, _, rfl, s4, h5⟩
    · rintro σ H' ⟨v5, v6, v7, rfl, s2, h2⟩
      have hbl := busesTo_length b r t b.buses
      have hcl := cutsOf_le (busesTo b r t b.buses)
      generalize busesTo b r t b.buses = pre at h2 k hbl hcl
      refine ⟨_, rfl, p, dx, _, rfl, s2 _ _ B.hp, nob (by decide +kernel) (by decide +kernel) (by decide +kernel) (by decide +kernel) (by decide +kernel), _, rfl, _, _, rfl, rfl, p, b, R, t + 48, rfl, ok, D.same s2, fun H3 s3' => ⟨_, rfl, ?_⟩⟩
      have s3 := s2.trans s3'
      have h3 := s3' _ _ h2
      have rest : ∀ z : Int, z = ((cutsOf pre + (if b.whole (t + 48) = true then 0 else 1000) : Nat) : Int) → tRet (tOp rCat (tOp rCat (tLst (tCons (tVar 7) tNil)) (tVar 3)) (tOp rRep (tLst (tCons (tC (.int 0)) tNil)) (tOp (rI0 fun i j => .int (i - j)) (tC (.int 384)) (tCB (fun xs H Q => ∃ p ys, xs = [.ref p] ∧ (SqL K H p ys ∨ SqT K H p ys) ∧ Q (.int ys.length) H) (tCons (tVar 3) tNil)))))
          { nx := fun _ H' => Q .non H', rt := Q } [some (.ref p), some (.ref sa), some (.int (t : Int)), some (.ref out), some (.int ((cutsOf pre : Nat) : Int)), v5, v6, some (.int z)] H3 := by
        intro z hz
        refine ⟨_, rfl, (by show 1 ≤ sizeLine; decide), fun l1 n1 => ⟨_, rfl, l1, out, _, _, rfl, rfl, upd_same, same_new n1 _ _ h3, ?_, fun l2 n2 => ?_⟩⟩
        · rw [List.length_map, List.length_map, List.length_singleton]
          exact line_of_le (by omega)
        have s4 : Same H3 (upd H3 l1 (.lst [.int z])) := same_new n1
        have s5 := s4.trans (same_new (o := .lst ([.int z] ++ (pre.map Km345.cut).map V.int)) n2)
        have h5 : upd (upd H3 l1 (.lst [.int z])) l2 (.lst ([.int z] ++ (pre.map Km345.cut).map V.int)) l2 = some (.lst ([.int z] ++ (pre.map Km345.cut).map V.int)) := upd_same
        generalize upd (upd H3 l1 (.lst [.int z])) l2 (.lst ([.int z] ++ (pre.map Km345.cut).map V.int)) = H5 at s5 h5
        refine ⟨(by show 1 ≤ sizeLine; decide), fun l3 n3 => ?_⟩
        have s6' : Same H5 (upd H5 l3 (.lst [.int 0])) := same_new n3
        have s6 := s5.trans s6'
        have h6 : upd H5 l3 (.lst [.int 0]) l3 = some (.lst [.int 0]) := upd_same
        generalize upd H5 l3 (.lst [.int 0]) = H6 at s6 s6' h6
        refine ⟨_, rfl, out, _, rfl, .inl (SqL.of (s6 _ _ h3)), _, _, rfl, rfl, l3, _, _, rfl, rfl, h6, ?_, ?_, ?_, fun l4 n4 => ?_⟩
        · rw [List.length_map, List.length_map]; omega
        · rw [List.length_map, List.length_map]; omega
        · rw [List.length_map, List.length_map]
          exact line_of_le (by rw [List.length_singleton]; omega)
        have e4 : ((384 : Int) - (((pre.map Km345.cut).map V.int).length : Int)).toNat = 384 - 48 * b.buses := by
          rw [List.length_map, List.length_map]; omega
        rw [e4, rep0I]
        have s7 := same_new (o := .lst ((List.replicate (384 - 48 * b.buses) (0 : Int)).map V.int)) n4
        refine ⟨l2, l4, _, _, rfl, rfl, (s6'.trans s7) _ _ h5, upd_same, ?_, fun r nr => ?_⟩
        · rw [List.length_append, List.length_map, List.length_map, List.length_singleton, List.length_map, List.length_replicate]
          exact line_of_le (by omega)
        have fin := k.still D (s3.trans (s6.trans s7)) nr
        rw [← hz] at fin
        have e9 : (z :: (pre.map Km345.cut ++ List.replicate (384 - 48 * b.buses) (0 : Int))).map V.int = ([V.int z] ++ (pre.map Km345.cut).map V.int) ++ (List.replicate (384 - 48 * b.buses) (0 : Int)).map V.int := by
          rw [List.map_cons, List.map_append]
          rfl
        rw [e9] at fin
        exact fin
      cases hw : b.whole (t + 48) with
      | true =>
        refine iteT ⟨_, rfl, rest _ ?_⟩
        rw [hw]
        rfl
      | false =>
        refine iteF ⟨_, rfl, _, _, rfl, rfl, rest _ ?_⟩
        rw [hw]
        rfl
end
end Sb

set_option Elab.async false
set_option maxRecDepth 100000
set_option maxHeartbeats 4000000
/-! Calls by their numbers; desk_answer, board_answer. -/
namespace Sb
open PySem PySem.Spec PyProof.Rows L2
open Km345 (Board Order Seal Desk)
abbrev sDAns : Stmt := top 56
abbrev sBAns : Stmt := top 57
/-! ### a call, its number and what stands behind it -/
inductive DEnc : Km345.Call → Nat → List Nat → Prop
  | start (c b : Nat) : DEnc (.dStart c b) 0 [c, b]
  | set (c b g f t : Nat) : DEnc (.dSet c b g f t) 1 [c, b, g, f, t]
  | keep (k : Nat) : DEnc (.dKeep k) 2 [k]
  | go (k f t : Nat) : DEnc (.dGo k f t) 3 [k, f, t]
  | sealT (t : Nat) : DEnc (.dSeal t) 4 [t]
  | again (n : Nat) : DEnc (.dAgain n) 5 [n]
inductive BEnc : Km345.Call → Nat → List Nat → List Int → Prop
  | start (c b : Nat) : BEnc (.bStart c b) 6 [c, b] []
  | heard (l : List Nat) (h : l.length = 28) (hb : ∀ x ∈ l, x < 256) : BEnc (.bHeard l) 7 [] (l.map fun (x : Nat) => (x : Int))
  | lacks : BEnc .bLacks 8 [] []
  | gain (c b t : Nat) : BEnc (.bGain c b t) 9 [c, b, t] []
  | mix (t : Nat) (r : List Int) (hl : r.length ≤ 1536) (hr : ∀ x ∈ r, -(2 ^ 31) ≤ x ∧ x < 2 ^ 31) : BEnc (.bMix (padded r) t) 10 [t] r
/-- the row, where there is one, with its count -/
def rowOf? (k : Nat) (row : List Int) : List Int := if k = 7 ∨ k = 10 then (row.length : Int) :: row else []
def natsI (l : List Nat) : List Int := l.map fun (x : Nat) => (x : Int)
inductive GForm (c : Km345Neutral.Call) : Prop
  | desk (x : Km345.Call) (k : Nat) (args : List Nat) (e : DEnc x k args) (hs : ∀ s, Km345Neutral.step s c = Km345Neutral.step0 s 0 x) (hp : PyFlat.put1 c = (k : Int) :: natsI args) : GForm c
  | board (x : Km345.Call) (k w : Nat) (args : List Nat) (row : List Int) (e : BEnc x k args row) (hs : ∀ s, Km345Neutral.step s c = Km345Neutral.step1 s w x) (hp : PyFlat.put1 c = (k : Int) :: natsI (w :: args) ++ rowOf? k row) : GForm c
theorem gform_of {c : Km345Neutral.Call} (h : Km345Neutral.asked1 c = true) : GForm c := by
  cases form_of h with
  | dStart a b => exact .desk _ 0 [a, b] (.start a b) (fun s => step_dStart s a b) rfl
  | dSet c b g f t => exact .desk _ 1 [c, b, g, f, t] (.set c b g f t) (fun s => step_dSet s c b g f t) rfl
  | dKeep k => exact .desk _ 2 [k] (.keep k) (fun s => step_dKeep s k) rfl
  | dGo k f t => exact .desk _ 3 [k, f, t] (.go k f t) (fun s => step_dGo s k f t) rfl
  | dSeal t => exact .desk _ 4 [t] (.sealT t) (fun s => step_dSeal s t) rfl
  | dAgain n => exact .desk _ 5 [n] (.again n) (fun s => step_dAgain s n) rfl
  | bStart k a b => exact .board _ 6 k [a, b] [] (.start a b) (fun s => step_bStart s k a b) rfl
  | bHeard k hk m hm hb => exact .board _ 7 k [] _ (.heard m hm hb) (fun s => step_bHeard s k m) (by
      show [(7 : Int), (k : Int)] ++ (PyFlat.putRow (m.map fun (x : Nat) => (x : Int)) ++ []) = _
      rw [List.append_nil]
      rfl)
  | bLacks k => exact .board _ 8 k [] [] .lacks (fun s => step_bLacks s k) rfl
  | bGain k c b t => exact .board _ 9 k [c, b, t] [] (.gain c b t) (fun s => step_bGain s k c b t) rfl
  | bMix k t hk ht r hr hl => exact .board _ 10 k [t] r (.mix t r hl hr) (fun s => step_bMix s k t r) (by
      show [(10 : Int), (k : Int), (t : Int)] ++ (PyFlat.putRow r ++ []) = _
      rw [List.append_nil]
      rfl)
/-! ### what a desk and a board stay -/
theorem goes_ok {f t : Nat} : ∀ (l : List (Nat × Nat × Nat)) {d : Desk}, DOk d → (∀ x ∈ l, x.1 < d.channels ∧ x.2.1 < d.buses) → d.orders.length + l.length ≤ 4096 → DOk (goes d f t l)
  | [], d, h, _, _ => h
  | x :: l, d, h, hx, hl => by
    obtain ⟨h1, h2⟩ := hx x List.mem_cons_self
    rw [List.length_cons] at hl
    refine goes_ok l (d := d.gives x.1 x.2.1 x.2.2 f t) (gives_ok h h1 h2 (by omega)) (fun y hy => hx y (List.mem_cons_of_mem _ hy)) ?_
    show (d.orders ++ [_]).length + l.length ≤ 4096
    rw [List.length_append, List.length_singleton]
    omega
theorem changes_in (d : Desk) (sc : List Nat) : ∀ x ∈ d.changes sc, x.1 < d.channels ∧ x.2.1 < d.buses := by
  intro x hx
  unfold Desk.changes at hx
  obtain ⟨y, hy, rfl⟩ := List.mem_map.mp hx
  have h1 := (List.mem_filter.mp hy).1
  have h2 : y.1 ∈ d.pairs := (List.of_mem_zip (show (y.1, y.2) ∈ d.pairs.zip sc from h1)).1
  unfold Desk.pairs at h2
  obtain ⟨c, hc, h3⟩ := List.mem_flatMap.mp h2
  obtain ⟨b, hb, e⟩ := List.mem_map.mp h3
  rw [← e]
  exact ⟨List.mem_range.mp hc, List.mem_range.mp hb⟩
theorem dStart_st (d : Desk) (c b : Nat) : ((Km345.dDoes d (.dStart c b)).2 = Km345.only (-22) ∧ (Km345.dDoes d (.dStart c b)).1 = d) ∨ ((Km345.dDoes d (.dStart c b)).2 = Km345.only 0 ∧ (Km345.dDoes d (.dStart c b)).1 = Km345.desk0 c b ∧ DOk (Km345.desk0 c b)) := by
  by_cases h : (1 ≤ c ∧ c ≤ 32) ∧ (1 ≤ b ∧ b ≤ 8)
  · rw [dStart_ok h]
    exact .inr ⟨rfl, rfl, desk0_ok h.1 h.2⟩
  · rw [dStart_22 h]
    exact .inl ⟨rfl, rfl⟩
theorem dDoes_ok {d : Desk} {x : Km345.Call} {k : Nat} {args : List Nat} (e : DEnc x k args) (h : DOk d) : DOk (Km345.dDoes d x).1 := by
  cases e with
  | start c b =>
    rcases dStart_st d c b with ⟨_, e⟩ | ⟨_, e, h'⟩
    · rw [e]; exact h
    · rw [e]; exact h'
  | set c b g f t =>
    by_cases h1 : Bad d c b g f t
    · rw [dSet_22 h1]; exact h
    by_cases h2 : t < d.sealed
    · rw [dSet_13 h1 h2]; exact h
    by_cases h3 : 4096 ≤ d.orders.length
    · rw [dSet_28 h1 h2 h3]; exact h
    rw [dSet_ok h1 h2 h3]
    unfold Bad at h1
    exact gives_ok h (by omega) (by omega) (by omega)
  | keep k =>
    by_cases h1 : 16 ≤ k
    · rw [dKeep_22 h1]; exact h
    · rw [dKeep_ok h1]; exact keep_ok h k
  | go k f t =>
    by_cases h1 : 16 ≤ k ∨ 480000 < f ∨ 281474976710656 ≤ t
    · rw [dGo_22 h1]; exact h
    by_cases h2 : d.scenes.getD k [] = []
    · rw [dGo_2 h1 h2]; exact h
    by_cases h3 : t < d.sealed ∨ t < lastAll d.orders
    · rw [dGo_13 h1 h2 h3]; exact h
    by_cases h4 : 4096 < d.orders.length + (d.changes (d.scenes.getD k [])).length
    · rw [dGo_28 h1 h2 h3 h4]; exact h
    rw [dGo_ok h1 h2 h3 h4]
    exact goes_ok _ h (changes_in d _) (by omega)
  | sealT t =>
    by_cases h1 : 281474976710656 < t
    · rw [dSeal_22 h1]; exact h
    by_cases h2 : t < d.sealed
    · rw [dSeal_13 h1 h2]; exact h
    rw [dSeal_ok h1 h2]
    exact seal_ok h (by have : (2 : Nat) ^ 48 = 281474976710656 := by decide
                        omega)
  | again n => exact h
theorem bStart_st (b : Board) (c n : Nat) : ((Km345.bDoes b (.bStart c n)).2 = Km345.only (-22) ∧ (Km345.bDoes b (.bStart c n)).1 = b) ∨ ((Km345.bDoes b (.bStart c n)).2 = Km345.only 0 ∧ (Km345.bDoes b (.bStart c n)).1 = Km345.board0 c n ∧ BOk (Km345.board0 c n)) := by
  by_cases h : Sized c n
  · rw [bStart_ok h]
    exact .inr ⟨rfl, rfl, board0_ok h.1.2 h.2.2⟩
  · rw [bStart_22 h]
    exact .inl ⟨rfl, rfl⟩
theorem bDoes_ok {b : Board} {x : Km345.Call} {k : Nat} {args : List Nat} {row : List Int} (e : BEnc x k args row) (h : BOk b) : BOk (Km345.bDoes b x).1 := by
  cases e with
  | start c n =>
    rcases bStart_st b c n with ⟨_, e⟩ | ⟨_, e, h'⟩
    · rw [e]; exact h
    · rw [e]; exact h'
  | heard l h28 hb =>
    cases eo : Km345.orderOf l with
    | some o =>
      rw [bHeard_some (hears_order eo)]
      exact ho_ok h (orderOf_good eo)
    | none =>
      cases ez : Km345.sealOf l with
      | some z =>
        rw [bHeard_some (hears_seal eo ez)]
        exact hs_ok h (sealOf_good ez)
      | none =>
        rw [bHeard_none (hears_none eo ez)]
        exact h
  | lacks => exact h
  | gain c b t => exact h
  | mix t r => exact h
theorem bLacks_told (b : Board) : Km345Neutral.told (Km345.bDoes b .bLacks).2 = [lackI b] := by
  have e : Km345.bDoes b .bLacks = (b, match b.lacks with
      | some n => Km345.only (n : Nat)
      | none => Km345.only (-11)) := rfl
  rw [e]
  unfold lackI
  cases b.lacks with
  | none => rfl
  | some n => rfl
/-! ### promises -/
def spDAns (CD CO : Addr) : Sp := fun vs H Q _ => ∃ (p na : Addr) (d : Desk) (R : Addr → Prop) (x : Km345.Call) (k : Nat) (args : List Nat), vs = [.ref p, .int (k : Int), .ref na] ∧ DEnc x k args ∧ H na = some (.lst (nV args)) ∧ DeskAt CD CO H p d R ∧ (k ≠ 0 → DOk d) ∧
  RetD CD CO H p R (Km345.dDoes d x).1 (Km345Neutral.told (Km345.dDoes d x).2) Q
def spBAns (C : Cl) : Sp := fun vs H Q _ => ∃ (p na ra : Addr) (b : Board) (R : Addr → Prop) (x : Km345.Call) (k : Nat) (args : List Nat) (row : List Int), vs = [.ref p, .int (k : Int), .ref na, .ref ra] ∧ BEnc x k args row ∧ H na = some (.lst (nV args)) ∧ H ra = some (.lst (row.map V.int)) ∧ BOk b ∧ BoardAt C H p b R ∧
  RetB C H p R (Km345.bDoes b x).1 (Km345Neutral.told (Km345.bDoes b x).2) Q
structure TxN (mg : Str → Option Value) : Prop where
  n0 : ∃ t, mg "SD_START" = some (.int 0 t)
  n1 : ∃ t, mg "SD_SET" = some (.int 1 t)
  n2 : ∃ t, mg "SD_KEEP" = some (.int 2 t)
  n3 : ∃ t, mg "SD_GO" = some (.int 3 t)
  n4 : ∃ t, mg "SD_SEAL" = some (.int 4 t)
  n6 : ∃ t, mg "SB_START" = some (.int 6 t)
  n7 : ∃ t, mg "SB_HEARD" = some (.int 7 t)
  n8 : ∃ t, mg "SB_LACKS" = some (.int 8 t)
  n9 : ∃ t, mg "SB_GAIN" = some (.int 9 t)
  n10 : ∃ t, mg "SB_MIX" = some (.int 10 t)
theorem at_nV {l : List Nat} {j x : Nat} (h : l[j]? = some x) : atI (nV l) (j : Int) = some (V.int (x : Int)) := at_of rfl (nV_get h)
section
variable {P : Program} {w : World} {K : PySem.W.Frag} {mg : Str → Option Value} {base : Heap} {C : Cl}
/-! ### desk_answer -/
theorem scDA : FnScope ["desk", "call", "numbers"] ["desk", "call", "numbers"] (defScope sDAns) := ⟨rfl, rfl, rfl, by decide +kernel, rfl, by decide +kernel, by decide +kernel⟩
theorem ok_dans {f f0 f1 f2 f3 f4 f5 CD CO : Addr} {fd fd0 fd1 fd2 fd3 fd4 fd5 : FuncData} (F : Fun K "desk_answer" "desk_answer" sDAns f fd) (T : TxD K mg CD) (TN : TxN mg)
    (G0 : FnOk P w K mg base CX0 2 f0 fd0 ["self", "channels", "buses"] (spStart CD CO)) (b0 : Binds K fd0 ["self", "channels", "buses"] []) (m0 : Meth K CD "sd_start" f0)
    (G1 : FnOk P w K mg base CX0 5 f1 fd1 ["self", "channel", "bus", "gain", "fade", "time"] (spSet CD CO)) (b1 : Binds K fd1 ["self", "channel", "bus", "gain", "fade", "time"] []) (m1 : Meth K CD "sd_set" f1)
    (G2 : FnOk P w K mg base CX0 1 f2 fd2 ["self", "scene"] (spKeep CD CO)) (b2 : Binds K fd2 ["self", "scene"] []) (m2 : Meth K CD "sd_keep" f2)
    (G3 : FnOk P w K mg base CX0 3 f3 fd3 ["self", "scene", "fade", "time"] (spGo CD CO)) (b3 : Binds K fd3 ["self", "scene", "fade", "time"] []) (m3 : Meth K CD "sd_go" f3)
    (G4 : FnOk P w K mg base CX0 4 f4 fd4 ["self", "time"] (spSeal CD CO)) (b4 : Binds K fd4 ["self", "time"] []) (m4 : Meth K CD "sd_seal" f4)
    (G5 : FnOk P w K mg base CX0 4 f5 fd5 ["self", "number"] (spAgain CD CO)) (b5 : Binds K fd5 ["self", "number"] []) (m5 : Meth K CD "sd_again" f5) :
    FnOk P w K mg base CX0 6 f fd ["desk", "call", "numbers"] (spDAns CD CO) := by
  obtain ⟨t0, n0⟩ := TN.n0
  obtain ⟨t1, n1⟩ := TN.n1
  obtain ⟨t2, n2⟩ := TN.n2
  obtain ⟨t3, n3⟩ := TN.n3
  obtain ⟨t4, n4⟩ := TN.n4
  refine F.ok scDA (fun vs H Q E h => ?_) (fun cdv A outer s H vs Q E hr h => ?_)
  · obtain ⟨p, na, d, R, x, k, args, rfl, _⟩ := h
    rfl
  · obtain ⟨p, na, d, R, x, k, args, rfl, e, hna, D, ok, q⟩ := h
    have r1 : Room 1 _ := hr.mono (by decide)
    have r2 : Room 2 _ := hr.mono (by decide)
    have r3 : Room 3 _ := hr.mono (by decide)
    have r4 : Room 4 _ := hr.mono (by decide)
    refine ⟨_, pss_cons (ps_if (pt_cmpR op_eq (pv 1) (pe_gint n0) (nomark _)) (pss_one (ps_ret (pe_meth (pv 0) T.cl m0 G0 r2 b0 .nil pass0 (pa_cons (pe_ix ix_list (pv 2) pe_int (fun _ _ => rfl)) (pa_cons (pe_ix ix_list (pv 2) pe_int (fun _ _ => rfl)) pa_nil))))) pss_nil)
      (pss_cons (ps_if (pt_cmpR op_eq (pv 1) (pe_gint n1) (nomark _)) (pss_one (ps_ret (pe_meth (pv 0) T.cl m1 G1 hr b1 .nil pass0 (pa_cons (pe_ix ix_list (pv 2) pe_int (fun _ _ => rfl)) (pa_cons (pe_ix ix_list (pv 2) pe_int (fun _ _ => rfl)) (pa_cons (pe_ix ix_list (pv 2) pe_int (fun _ _ => rfl)) (pa_cons (pe_ix ix_list (pv 2) pe_int (fun _ _ => rfl)) (pa_cons (pe_ix ix_list (pv 2) pe_int (fun _ _ => rfl)) pa_nil)))))))) pss_nil)
      (pss_cons (ps_if (pt_cmpR op_eq (pv 1) (pe_gint n2) (nomark _)) (pss_one (ps_ret (pe_meth (pv 0) T.cl m2 G2 r1 b2 .nil pass0 (pa_cons (pe_ix ix_list (pv 2) pe_int (fun _ _ => rfl)) pa_nil)))) pss_nil)
      (pss_cons (ps_if (pt_cmpR op_eq (pv 1) (pe_gint n3) (nomark _)) (pss_one (ps_ret (pe_meth (pv 0) T.cl m3 G3 r3 b3 .nil pass0 (pa_cons (pe_ix ix_list (pv 2) pe_int (fun _ _ => rfl)) (pa_cons (pe_ix ix_list (pv 2) pe_int (fun _ _ => rfl)) (pa_cons (pe_ix ix_list (pv 2) pe_int (fun _ _ => rfl)) pa_nil)))))) pss_nil)
      (pss_cons (ps_if (pt_cmpR op_eq (pv 1) (pe_gint n4) (nomark _)) (pss_one (ps_ret (pe_meth (pv 0) T.cl m4 G4 r4 b4 .nil pass0 (pa_cons (pe_ix ix_list (pv 2) pe_int (fun _ _ => rfl)) pa_nil)))) pss_nil)
      (pss_one (ps_ret (pe_meth (pv 0) T.cl m5 G5 r4 b5 .nil pass0 (pa_cons (pe_ix ix_list (pv 2) pe_int (fun _ _ => rfl)) pa_nil)))))))), ?_⟩
    obtain ⟨dx, fs, hp, hfs⟩ := D.fs
    have no : ∀ {m : Str}, (m == ("channels" : Str)) = false → (m == ("buses" : Str)) = false → (m == ("orders" : Str)) = false → (m == ("sealed" : Str)) = false → (m == ("latest" : Str)) = false → (m == ("goals" : Str)) = false → (m == ("goal_times" : Str)) = false → (m == ("scenes" : Str)) = false → fs.lookup m = none := fun h1 h2 h3 h4 h5 h6 h7 h8 => hfs.no h1 h2 h3 h4 h5 h6 h7 h8
    cases e with
    | start c b =>
      refine ⟨_, rfl, rfl, _, rfl, iteT ?_⟩
      exact ⟨_, rfl, p, dx, _, rfl, hp, no (by decide +kernel) (by decide +kernel) (by decide +kernel) (by decide +kernel) (by decide +kernel) (by decide +kernel) (by decide +kernel) (by decide +kernel), _, rfl, na, _, _, _, rfl, rfl, SqL.of hna, at_nV (j := 0) rfl, _, rfl, na, _, _, _, rfl, rfl, SqL.of hna, at_nV (j := 1) rfl, p, d, R, c, b, rfl, D, q⟩
    | set c b g f t =>
      refine ⟨_, rfl, rfl, _, rfl, iteF ⟨_, rfl, rfl, _, rfl, iteT ?_⟩⟩
      exact ⟨_, rfl, p, dx, _, rfl, hp, no (by decide +kernel) (by decide +kernel) (by decide +kernel) (by decide +kernel) (by decide +kernel) (by decide +kernel) (by decide +kernel) (by decide +kernel), _, rfl, na, _, _, _, rfl, rfl, SqL.of hna, at_nV (j := 0) rfl, _, rfl, na, _, _, _, rfl, rfl, SqL.of hna, at_nV (j := 1) rfl, _, rfl, na, _, _, _, rfl, rfl, SqL.of hna, at_nV (j := 2) rfl, _, rfl, na, _, _, _, rfl, rfl, SqL.of hna, at_nV (j := 3) rfl, _, rfl, na, _, _, _, rfl, rfl, SqL.of hna, at_nV (j := 4) rfl, p, d, R, c, b, g, f, t, rfl, ok (by decide), D, q⟩
    | keep k =>
      refine ⟨_, rfl, rfl, _, rfl, iteF ⟨_, rfl, rfl, _, rfl, iteF ⟨_, rfl, rfl, _, rfl, iteT ?_⟩⟩⟩
      exact ⟨_, rfl, p, dx, _, rfl, hp, no (by decide +kernel) (by decide +kernel) (by decide +kernel) (by decide +kernel) (by decide +kernel) (by decide +kernel) (by decide +kernel) (by decide +kernel), _, rfl, na, _, _, _, rfl, rfl, SqL.of hna, at_nV (j := 0) rfl, p, d, R, k, rfl, ok (by decide), D, q⟩
    | go k f t =>
      refine ⟨_, rfl, rfl, _, rfl, iteF ⟨_, rfl, rfl, _, rfl, iteF ⟨_, rfl, rfl, _, rfl, iteF ⟨_, rfl, rfl, _, rfl, iteT ?_⟩⟩⟩⟩
      exact ⟨_, rfl, p, dx, _, rfl, hp, no (by decide +kernel) (by decide +kernel) (by decide +kernel) (by decide +kernel) (by decide +kernel) (by decide +kernel) (by decide +kernel) (by decide +kernel), _, rfl, na, _, _, _, rfl, rfl, SqL.of hna, at_nV (j := 0) rfl, _, rfl, na, _, _, _, rfl, rfl, SqL.of hna, at_nV (j := 1) rfl, _, rfl, na, _, _, _, rfl, rfl, SqL.of hna, at_nV (j := 2) rfl, p, d, R, k, f, t, rfl, ok (by decide), D, q⟩
    | sealT t =>
      refine ⟨_, rfl, rfl, _, rfl, iteF ⟨_, rfl, rfl, _, rfl, iteF ⟨_, rfl, rfl, _, rfl, iteF ⟨_, rfl, rfl, _, rfl, iteF ⟨_, rfl, rfl, _, rfl, iteT ?_⟩⟩⟩⟩⟩
      exact ⟨_, rfl, p, dx, _, rfl, hp, no (by decide +kernel) (by decide +kernel) (by decide +kernel) (by decide +kernel) (by decide +kernel) (by decide +kernel) (by decide +kernel) (by decide +kernel), _, rfl, na, _, _, _, rfl, rfl, SqL.of hna, at_nV (j := 0) rfl, p, d, R, t, rfl, ok (by decide), D, q⟩
    | again n =>
      refine ⟨_, rfl, rfl, _, rfl, iteF ⟨_, rfl, rfl, _, rfl, iteF ⟨_, rfl, rfl, _, rfl, iteF ⟨_, rfl, rfl, _, rfl, iteF ⟨_, rfl, rfl, _, rfl, iteF ?_⟩⟩⟩⟩⟩
      exact ⟨_, rfl, p, dx, _, rfl, hp, no (by decide +kernel) (by decide +kernel) (by decide +kernel) (by decide +kernel) (by decide +kernel) (by decide +kernel) (by decide +kernel) (by decide +kernel), _, rfl, na, _, _, _, rfl, rfl, SqL.of hna, at_nV (j := 0) rfl, p, d, R, n, rfl, ok (by decide), D, q⟩
/-! ### board_answer -/
theorem scBA : FnScope ["board", "call", "numbers", "row"] ["board", "call", "numbers", "row"] (defScope sBAns) := ⟨rfl, rfl, rfl, by decide +kernel, rfl, by decide +kernel, by decide +kernel⟩
theorem ok_bans {f f6 f7 f8 f9 f10 : Addr} {fd fd6 fd7 fd8 fd9 fd10 : FuncData} (F : Fun K "board_answer" "board_answer" sBAns f fd) (T : TxBd K mg C) (TN : TxN mg)
    (G6 : FnOk P w K mg base CX0 4 f6 fd6 ["self", "channels", "buses"] (spBStart C)) (b6 : Binds K fd6 ["self", "channels", "buses"] []) (m6 : Meth K C.B "sb_start" f6)
    (G7 : FnOk P w K mg base CX0 6 f7 fd7 ["self", "octets"] (spHeard C)) (b7 : Binds K fd7 ["self", "octets"] []) (m7 : Meth K C.B "sb_heard" f7)
    (G8 : FnOk P w K mg base CX0 1 f8 fd8 ["self"] (spLacks C)) (b8 : Binds K fd8 ["self"] []) (m8 : Meth K C.B "sb_lacks" f8)
    (G9 : FnOk P w K mg base CX0 4 f9 fd9 ["self", "channel", "bus", "time"] (spGain C)) (b9 : Binds K fd9 ["self", "channel", "bus", "time"] []) (m9 : Meth K C.B "sb_gain" f9)
    (G10 : FnOk P w K mg base CX0 5 f10 fd10 ["self", "samples", "time"] (spMix C)) (b10 : Binds K fd10 ["self", "samples", "time"] []) (m10 : Meth K C.B "sb_mix" f10) :
    FnOk P w K mg base CX0 7 f fd ["board", "call", "numbers", "row"] (spBAns C) := by
  obtain ⟨t6, n6⟩ := TN.n6
  obtain ⟨t7, n7⟩ := TN.n7
  obtain ⟨t8, n8⟩ := TN.n8
  obtain ⟨t9, n9⟩ := TN.n9
  refine F.ok scBA (fun vs H Q E h => ?_) (fun cdv A outer s H vs Q E hr h => ?_)
  · obtain ⟨p, na, ra, b, R, x, k, args, row, rfl, _⟩ := h
    rfl
  · obtain ⟨p, na, ra, b, R, x, k, args, row, rfl, e, hna, hra, ok, D, q⟩ := h
    have r1 : Room 1 _ := hr.mono (by decide)
    have r4 : Room 4 _ := hr.mono (by decide)
    have r5 : Room 5 _ := hr.mono (by decide)
    refine ⟨_, pss_cons (ps_if (pt_cmpR op_eq (pv 1) (pe_gint n6) (nomark _)) (pss_one (ps_ret (pe_meth (pv 0) T.cl m6 G6 r4 b6 .nil pass0 (pa_cons (pe_ix ix_list (pv 2) pe_int (fun _ _ => rfl)) (pa_cons (pe_ix ix_list (pv 2) pe_int (fun _ _ => rfl)) pa_nil))))) pss_nil)
      (pss_cons (ps_if (pt_cmpR op_eq (pv 1) (pe_gint n7) (nomark _)) (pss_one (ps_ret (pe_meth (pv 0) T.cl m7 G7 hr b7 .nil pass0 (pa_cons (pv 3) pa_nil)))) pss_nil)
      (pss_cons (ps_if (pt_cmpR op_eq (pv 1) (pe_gint n8) (nomark _)) (pss_one (ps_ret (pe_meth0 (pv 0) T.cl m8 G8 r1 b8 .nil pass0))) pss_nil)
      (pss_cons (ps_if (pt_cmpR op_eq (pv 1) (pe_gint n9) (nomark _)) (pss_one (ps_ret (pe_meth (pv 0) T.cl m9 G9 r4 b9 .nil pass0 (pa_cons (pe_ix ix_list (pv 2) pe_int (fun _ _ => rfl)) (pa_cons (pe_ix ix_list (pv 2) pe_int (fun _ _ => rfl)) (pa_cons (pe_ix ix_list (pv 2) pe_int (fun _ _ => rfl)) pa_nil)))))) pss_nil)
      (pss_one (ps_ret (pe_meth (pv 0) T.cl m10 G10 r5 b10 .nil pass0 (pa_cons (pv 3) (pa_cons (pe_ix ix_list (pv 2) pe_int (fun _ _ => rfl)) pa_nil)))))))), ?_⟩
    obtain ⟨dx, sl, nd, gd, kvs, gvs, B⟩ := id D
    have hp := B.hp
    have no : ∀ {m : Str}, (m == ("channels" : Str)) = false → (m == ("buses" : Str)) = false → (m == ("seal" : Str)) = false → (m == ("numbers" : Str)) = false → (m == ("gains" : Str)) = false → (bfs b.channels b.buses sl nd gd).lookup m = none := fun h1 h2 h3 h4 h5 => bfs_no h1 h2 h3 h4 h5
    cases e with
    | start c n =>
      refine ⟨_, rfl, rfl, _, rfl, iteT ?_⟩
      exact ⟨_, rfl, p, dx, _, rfl, hp, no (by decide +kernel) (by decide +kernel) (by decide +kernel) (by decide +kernel) (by decide +kernel), _, rfl, na, _, _, _, rfl, rfl, SqL.of hna, at_nV (j := 0) rfl, _, rfl, na, _, _, _, rfl, rfl, SqL.of hna, at_nV (j := 1) rfl, p, b, R, c, n, rfl, D, q⟩
    | heard l h28 hb =>
      refine ⟨_, rfl, rfl, _, rfl, iteF ⟨_, rfl, rfl, _, rfl, iteT ?_⟩⟩
      refine ⟨_, rfl, p, dx, _, rfl, hp, no (by decide +kernel) (by decide +kernel) (by decide +kernel) (by decide +kernel) (by decide +kernel), _, rfl, p, ra, b, R, l, rfl, ok, D, ?_, h28, hb, q⟩
      rw [hra]
      unfold nV
      rw [List.map_map]
      rfl
    | lacks =>
      refine ⟨_, rfl, rfl, _, rfl, iteF ⟨_, rfl, rfl, _, rfl, iteF ⟨_, rfl, rfl, _, rfl, iteT ?_⟩⟩⟩
      refine ⟨_, rfl, p, dx, _, rfl, hp, no (by decide +kernel) (by decide +kernel) (by decide +kernel) (by decide +kernel) (by decide +kernel), p, b, R, rfl, ok, D, fun r hr => ?_⟩
      rw [bLacks_told] at q
      exact q.refuse D hr
    | gain c u t =>
      refine ⟨_, rfl, rfl, _, rfl, iteF ⟨_, rfl, rfl, _, rfl, iteF ⟨_, rfl, rfl, _, rfl, iteF ⟨_, rfl, rfl, _, rfl, iteT ?_⟩⟩⟩⟩
      exact ⟨_, rfl, p, dx, _, rfl, hp, no (by decide +kernel) (by decide +kernel) (by decide +kernel) (by decide +kernel) (by decide +kernel), _, rfl, na, _, _, _, rfl, rfl, SqL.of hna, at_nV (j := 0) rfl, _, rfl, na, _, _, _, rfl, rfl, SqL.of hna, at_nV (j := 1) rfl, _, rfl, na, _, _, _, rfl, rfl, SqL.of hna, at_nV (j := 2) rfl, p, b, R, c, u, t, rfl, ok, D, q⟩
    | mix t r hl hrg =>
      refine ⟨_, rfl, rfl, _, rfl, iteF ⟨_, rfl, rfl, _, rfl, iteF ⟨_, rfl, rfl, _, rfl, iteF ⟨_, rfl, rfl, _, rfl, iteF ?_⟩⟩⟩⟩
      exact ⟨_, rfl, p, dx, _, rfl, hp, no (by decide +kernel) (by decide +kernel) (by decide +kernel) (by decide +kernel) (by decide +kernel), _, rfl, _, rfl, na, _, _, _, rfl, rfl, SqL.of hna, at_nV (j := 0) rfl, p, ra, b, R, t, _, rfl, ok, D, hra, hl, hrg, q⟩
end
end Sb

set_option Elab.async false
set_option maxRecDepth 100000
set_option maxHeartbeats 4000000
/-! answers: the loop over the calls. -/
namespace Sb
open PySem PySem.Spec PyProof.Rows L2
open Km345 (Board Order Seal Desk)
abbrev sAns : Stmt := top 58
def spAns (K : PySem.W.Frag) : Sp := fun vs H Q _ => ∃ (a : Addr) (ns : List Int), vs = [.ref a] ∧ SqL K H a (ns.map V.int) ∧ PyKm345.answers_asked ns = true ∧ ∀ (H' : Hp) (p : Addr), H' p = some (.lst ((PyKm345.answers ns).map V.int)) → Q (.ref p) H'
/-! ### the specification's state -/
def DSt (od : Option Desk) (d : Desk) : Prop := (od = some d ∧ DOk d) ∨ (od = none ∧ d = Km345.desk0 0 0)
def BSt (ob : Option Board) (b : Board) : Prop := BOk b ∧ (ob = some b ∨ (ob = none ∧ b = Km345.board0 0 0))
theorem told_neg {a : Km345.Ans} : (Km345Neutral.told a).headD 0 = a.value := rfl
theorem desk_step {od : Option Desk} {d : Desk} {bs : List (Option Board)} {x : Km345.Call} {k : Nat} {args : List Nat} (h : DSt od d) (e : DEnc x k args) (hne : (Km345Neutral.step0 ([od], bs) 0 x).2 ≠ []) :
    (Km345Neutral.step0 ([od], bs) 0 x).2 = Km345Neutral.told (Km345.dDoes d x).2 ∧ (k ≠ 0 → DOk d) ∧ ∃ od', (Km345Neutral.step0 ([od], bs) 0 x).1 = ([od'], bs) ∧ DSt od' (Km345.dDoes d x).1 := by
  rcases h with ⟨rfl, ok⟩ | ⟨rfl, rfl⟩
  · exact ⟨rfl, fun _ => ok, _, rfl, .inl ⟨rfl, dDoes_ok e ok⟩⟩
  · cases e with
    | start c b =>
      have s0 : Km345Neutral.step0 ([none], bs) 0 (.dStart c b) = (if (Km345Neutral.told (Km345.dDoes (Km345.desk0 1 1) (.dStart c b)).2).headD 0 < 0 then (([none], bs) : Km345Neutral.S) else ([some (Km345.dDoes (Km345.desk0 1 1) (.dStart c b)).1], bs), Km345Neutral.told (Km345.dDoes (Km345.desk0 1 1) (.dStart c b)).2) := rfl
      by_cases hs : (1 ≤ c ∧ c ≤ 32) ∧ (1 ≤ b ∧ b ≤ 8)
      · rw [s0, dStart_ok hs, dStart_ok hs]
        exact ⟨rfl, fun z => absurd rfl z, some (Km345.desk0 c b), rfl, .inl ⟨rfl, desk0_ok hs.1 hs.2⟩⟩
      · rw [s0, dStart_22 hs, dStart_22 hs]
        exact ⟨rfl, fun z => absurd rfl z, none, rfl, .inr ⟨rfl, rfl⟩⟩
    | set c b g f t => exact absurd rfl hne
    | keep k => exact absurd rfl hne
    | go k f t => exact absurd rfl hne
    | sealT t => exact absurd rfl hne
    | again n => exact absurd rfl hne
theorem step1_some {ds : List (Option Desk)} {bs : List (Option Board)} {w : Nat} {x : Km345.Call} {a : Board} (hw : w < 2) (hg : bs.getD w none = some a) : Km345Neutral.step1 (ds, bs) w x = ((ds, bs.set w (some (Km345.bDoes a x).1)), Km345Neutral.told (Km345.bDoes a x).2) := by
  have e : Km345Neutral.step1 (ds, bs) w x = if 2 ≤ w then ((ds, bs), []) else match bs.getD w none with
    | some a => ((ds, bs.set w (some (Km345.bDoes a x).1)), Km345Neutral.told (Km345.bDoes a x).2)
    | none => if Km345.isStart x then (if (Km345Neutral.told (Km345.bDoes (Km345.board0 1 1) x).2).headD 0 < 0 then (ds, bs) else (ds, bs.set w (some (Km345.bDoes (Km345.board0 1 1) x).1)), Km345Neutral.told (Km345.bDoes (Km345.board0 1 1) x).2) else ((ds, bs), []) := rfl
  rw [e, if_neg (by omega), hg]
theorem step1_none {ds : List (Option Desk)} {bs : List (Option Board)} {w : Nat} {x : Km345.Call} (hw : w < 2) (hg : bs.getD w none = none) : Km345Neutral.step1 (ds, bs) w x = (if Km345.isStart x then (if (Km345Neutral.told (Km345.bDoes (Km345.board0 1 1) x).2).headD 0 < 0 then (ds, bs) else (ds, bs.set w (some (Km345.bDoes (Km345.board0 1 1) x).1)), Km345Neutral.told (Km345.bDoes (Km345.board0 1 1) x).2) else ((ds, bs), [])) := by
  have e : Km345Neutral.step1 (ds, bs) w x = if 2 ≤ w then ((ds, bs), []) else match bs.getD w none with
    | some a => ((ds, bs.set w (some (Km345.bDoes a x).1)), Km345Neutral.told (Km345.bDoes a x).2)
    | none => if Km345.isStart x then (if (Km345Neutral.told (Km345.bDoes (Km345.board0 1 1) x).2).headD 0 < 0 then (ds, bs) else (ds, bs.set w (some (Km345.bDoes (Km345.board0 1 1) x).1)), Km345Neutral.told (Km345.bDoes (Km345.board0 1 1) x).2) else ((ds, bs), []) := rfl
  rw [e, if_neg (by omega), hg]
theorem board_step1 {ob : Option Board} {b : Board} {x : Km345.Call} {k : Nat} {args : List Nat} {row : List Int} (h : BSt ob b) (e : BEnc x k args row) {ds : List (Option Desk)} {bs : List (Option Board)} {w : Nat} (hw : w < 2) (hg : bs.getD w none = ob)
    (hne : (Km345Neutral.step1 (ds, bs) w x).2 ≠ []) :
    (Km345Neutral.step1 (ds, bs) w x).2 = Km345Neutral.told (Km345.bDoes b x).2 ∧ ∃ ob', ((Km345Neutral.step1 (ds, bs) w x).1 = (ds, bs.set w ob') ∨ ((Km345Neutral.step1 (ds, bs) w x).1 = (ds, bs) ∧ ob' = ob)) ∧ BSt ob' (Km345.bDoes b x).1 := by
  obtain ⟨ok, h⟩ := h
  rcases h with rfl | ⟨rfl, rfl⟩
  · rw [step1_some hw hg]
    exact ⟨rfl, _, .inl rfl, bDoes_ok e ok, .inl rfl⟩
  · rw [step1_none hw hg] at hne ⊢
    cases e with
    | start c n =>
      have s0 : (if Km345.isStart (.bStart c n) then (if (Km345Neutral.told (Km345.bDoes (Km345.board0 1 1) (.bStart c n)).2).headD 0 < 0 then (ds, bs) else (ds, bs.set w (some (Km345.bDoes (Km345.board0 1 1) (.bStart c n)).1)), Km345Neutral.told (Km345.bDoes (Km345.board0 1 1) (.bStart c n)).2) else ((ds, bs), [])) =
        (if (Km345Neutral.told (Km345.bDoes (Km345.board0 1 1) (.bStart c n)).2).headD 0 < 0 then ((ds, bs) : Km345Neutral.S) else (ds, bs.set w (some (Km345.bDoes (Km345.board0 1 1) (.bStart c n)).1)), Km345Neutral.told (Km345.bDoes (Km345.board0 1 1) (.bStart c n)).2) := rfl
      rw [s0]
      by_cases hs : Sized c n
      · rw [bStart_ok hs, bStart_ok hs]
        exact ⟨rfl, some (Km345.board0 c n), .inl rfl, board0_ok hs.1.2 hs.2.2, .inl rfl⟩
      · rw [bStart_22 hs, bStart_22 hs]
        exact ⟨rfl, none, .inr ⟨rfl, rfl⟩, ok, .inr ⟨rfl, rfl⟩⟩
    | heard l h1 h2 => exact absurd rfl hne
    | lacks => exact absurd rfl hne
    | gain c b t => exact absurd rfl hne
    | mix t r h1 h2 => exact absurd rfl hne
/-! ### how long an answer is -/
theorem told_only (z : Int) : (Km345Neutral.told (Km345.only z)).length = 1 := rfl
theorem told_bytes {a : Km345.Ans} (h : a.bytes.length = 28) (h2 : a.out = []) : (Km345Neutral.told a).length = 29 := by
  show (a.value :: (Km345Neutral.nums a.bytes ++ a.out)).length = 29
  rw [List.length_cons, List.length_append, h2]
  unfold Km345Neutral.nums
  rw [List.length_map, h]
  rfl
theorem dlen {d : Desk} {x : Km345.Call} {k : Nat} {args : List Nat} (e : DEnc x k args) : (Km345Neutral.told (Km345.dDoes d x).2).length ≤ 400 := by
  cases e with
  | start c b =>
    rcases dStart_st d c b with ⟨e, _⟩ | ⟨e, _⟩ <;> rw [e, told_only] <;> decide
  | set c b g f t =>
    by_cases h1 : Bad d c b g f t
    · rw [dSet_22 h1]; exact Nat.le_trans (Nat.le_of_eq (told_only _)) (by decide)
    by_cases h2 : t < d.sealed
    · rw [dSet_13 h1 h2]; exact Nat.le_trans (Nat.le_of_eq (told_only _)) (by decide)
    by_cases h3 : 4096 ≤ d.orders.length
    · rw [dSet_28 h1 h2 h3]; exact Nat.le_trans (Nat.le_of_eq (told_only _)) (by decide)
    rw [dSet_ok h1 h2 h3]
    exact Nat.le_trans (Nat.le_of_eq (told_bytes (order_length _) rfl)) (by decide)
  | keep k =>
    by_cases h1 : 16 ≤ k
    · rw [dKeep_22 h1]; exact Nat.le_trans (Nat.le_of_eq (told_only _)) (by decide)
    · rw [dKeep_ok h1]; exact Nat.le_trans (Nat.le_of_eq (told_only _)) (by decide)
  | go k f t =>
    by_cases h1 : 16 ≤ k ∨ 480000 < f ∨ 281474976710656 ≤ t
    · rw [dGo_22 h1]; exact Nat.le_trans (Nat.le_of_eq (told_only _)) (by decide)
    by_cases h2 : d.scenes.getD k [] = []
    · rw [dGo_2 h1 h2]; exact Nat.le_trans (Nat.le_of_eq (told_only _)) (by decide)
    by_cases h3 : t < d.sealed ∨ t < lastAll d.orders
    · rw [dGo_13 h1 h2 h3]; exact Nat.le_trans (Nat.le_of_eq (told_only _)) (by decide)
    by_cases h4 : 4096 < d.orders.length + (d.changes (d.scenes.getD k [])).length
    · rw [dGo_28 h1 h2 h3 h4]; exact Nat.le_trans (Nat.le_of_eq (told_only _)) (by decide)
    rw [dGo_ok h1 h2 h3 h4]
    exact Nat.le_trans (Nat.le_of_eq (told_only _)) (by decide)
  | sealT t =>
    by_cases h1 : 281474976710656 < t
    · rw [dSeal_22 h1]; exact Nat.le_trans (Nat.le_of_eq (told_only _)) (by decide)
    by_cases h2 : t < d.sealed
    · rw [dSeal_13 h1 h2]; exact Nat.le_trans (Nat.le_of_eq (told_only _)) (by decide)
    rw [dSeal_ok h1 h2]
    exact Nat.le_trans (Nat.le_of_eq (told_bytes (seal_length _) rfl)) (by decide)
  | again n =>
    by_cases h1 : d.orders.length ≤ n
    · rw [dAgain_2 h1]; exact Nat.le_trans (Nat.le_of_eq (told_only _)) (by decide)
    · rw [dAgain_ok (List.getElem?_eq_getElem (Nat.lt_of_not_le h1))]
      exact Nat.le_trans (Nat.le_of_eq (told_bytes (order_length _) rfl)) (by decide)
theorem blen {b : Board} {x : Km345.Call} {k : Nat} {args : List Nat} {row : List Int} (e : BEnc x k args row) (ok : BOk b) : (Km345Neutral.told (Km345.bDoes b x).2).length ≤ 400 := by
  cases e with
  | start c n =>
    rcases bStart_st b c n with ⟨e, _⟩ | ⟨e, _⟩ <;> rw [e, told_only] <;> decide
  | heard l h28 hb =>
    cases eh : b.hears l with
    | none => rw [bHeard_none eh]; exact Nat.le_trans (Nat.le_of_eq (told_only _)) (by decide)
    | some y => rw [bHeard_some eh]; exact Nat.le_trans (Nat.le_of_eq (told_only _)) (by decide)
  | lacks =>
    rw [bLacks_told]
    exact Nat.le_trans (Nat.le_of_eq (show [lackI b].length = 1 from rfl)) (by decide)
  | gain c u t =>
    by_cases h : b.channels ≤ c ∨ b.buses ≤ u ∨ 281474976710656 ≤ t
    · rw [bGain_22 h]; exact Nat.le_trans (Nat.le_of_eq (show [(-22 : Int)].length = 1 from rfl)) (by decide)
    · rw [bGain_ok h]; exact Nat.le_trans (Nat.le_of_eq (show [Km345.gainAt b.orders c u t].length = 1 from rfl)) (by decide)
  | mix t hl hr =>
    rename_i r
    by_cases h : t % 48 ≠ 0 ∨ 281474976710656 ≤ t
    · rw [bMix_22 h]; exact Nat.le_trans (Nat.le_of_eq (told_only _)) (by decide)
    · rw [bMix_ok h ok.bu, List.length_cons, List.length_append, List.length_map, busesTo_length, List.length_replicate]
      have := ok.bu
      omega
end Sb

set_option Elab.async false
set_option maxRecDepth 100000
set_option maxHeartbeats 4000000
/-! answers: what stands on the heap, and the loop. -/
namespace Sb
open PySem PySem.Spec PyProof.Rows L2
open Km345 (Board Order Seal Desk)
/-! ### the desk, the boards, and what is answered so far -/
structure Wd (CD : Addr) (C : Cl) (H0 H : Hp) (pd p0 p1 bl an : Addr) (d : Desk) (b0 b1 : Board) (R0 R1 R2 : Addr → Prop) (out : List Int) : Prop where
  same : Same H0 H
  D : DeskAt CD C.O H pd d R0
  B0 : BoardAt C H p0 b0 R1
  B1 : BoardAt C H p1 b1 R2
  hbl : H bl = some (.lst [.ref p0, .ref p1])
  han : H an = some (.lst (out.map V.int))
  d01 : ∀ x, R0 x → ¬ R1 x
  d02 : ∀ x, R0 x → ¬ R2 x
  d12 : ∀ x, R1 x → ¬ R2 x
  n0 : ∀ x, R0 x → H0 x = none ∧ x ≠ bl ∧ x ≠ an
  n1 : ∀ x, R1 x → H0 x = none ∧ x ≠ bl ∧ x ≠ an
  n2 : ∀ x, R2 x → H0 x = none ∧ x ≠ bl ∧ x ≠ an
  nan : H0 an = none
  ba : bl ≠ an
section
variable {CD : Addr} {C : Cl} {H0 H H' : Hp} {pd p0 p1 bl an : Addr} {d d' : Desk} {b0 b1 b' : Board} {R0 R1 R2 R' : Addr → Prop} {out : List Int}
theorem Wd.grow (W : Wd CD C H0 H pd p0 p1 bl an d b0 b1 R0 R1 R2 out) (s : Same H H') : Wd CD C H0 H' pd p0 p1 bl an d b0 b1 R0 R1 R2 out :=
  { W with same := W.same.trans s, D := W.D.same s, B0 := W.B0.same s, B1 := W.B1.same s, hbl := s _ _ W.hbl, han := s _ _ W.han }
theorem Wd.desk (W : Wd CD C H0 H pd p0 p1 bl an d b0 b1 R0 R1 R2 out) (D' : DeskAt CD C.O H' pd d' R') (r : ∀ x, R' x → R0 x ∨ H x = none) (k : Kept H H' R0) : Wd CD C H0 H' pd p0 p1 bl an d' b0 b1 R' R1 R2 out where
  same := fun x o e => k x o (W.same x o e) fun z => by rw [(W.n0 x z).1] at e; cases e
  D := D'
  B0 := W.B0.frame fun x hx => by
    obtain ⟨o, e⟩ := W.B0.alloc hx
    rw [e]
    exact k x o e fun z => W.d01 x z hx
  B1 := W.B1.frame fun x hx => by
    obtain ⟨o, e⟩ := W.B1.alloc hx
    rw [e]
    exact k x o e fun z => W.d02 x z hx
  hbl := k _ _ W.hbl fun z => (W.n0 _ z).2.1 rfl
  han := k _ _ W.han fun z => (W.n0 _ z).2.2 rfl
  d01 := fun x hx z => by
    rcases r x hx with h | h
    · exact W.d01 x h z
    · exact W.B0.not h z
  d02 := fun x hx z => by
    rcases r x hx with h | h
    · exact W.d02 x h z
    · exact W.B1.not h z
  d12 := W.d12
  n0 := fun x hx => by
    rcases r x hx with h | h
    · exact W.n0 x h
    · exact ⟨W.same.free h, (fun z => by rw [z, W.hbl] at h; cases h), (fun z => by rw [z, W.han] at h; cases h)⟩
  n1 := W.n1
  n2 := W.n2
  nan := W.nan
  ba := W.ba
theorem Wd.bd0 (W : Wd CD C H0 H pd p0 p1 bl an d b0 b1 R0 R1 R2 out) (B' : BoardAt C H' p0 b' R') (r : ∀ x, R' x → R1 x ∨ H x = none) (k : Kept H H' R1) : Wd CD C H0 H' pd p0 p1 bl an d b' b1 R0 R' R2 out where
  same := fun x o e => k x o (W.same x o e) fun z => by rw [(W.n1 x z).1] at e; cases e
  D := W.D.frame fun x hx => by
    obtain ⟨o, e⟩ := W.D.alloc hx
    rw [e]
    exact k x o e fun z => W.d01 x hx z
  B0 := B'
  B1 := W.B1.frame fun x hx => by
    obtain ⟨o, e⟩ := W.B1.alloc hx
    rw [e]
    exact k x o e fun z => W.d12 x z hx
  hbl := k _ _ W.hbl fun z => (W.n1 _ z).2.1 rfl
  han := k _ _ W.han fun z => (W.n1 _ z).2.2 rfl
  d01 := fun x hx z => by
    rcases r x z with h | h
    · exact W.d01 x hx h
    · exact W.D.not h hx
  d02 := W.d02
  d12 := fun x hx z => by
    rcases r x hx with h | h
    · exact W.d12 x h z
    · exact W.B1.not h z
  n0 := W.n0
  n1 := fun x hx => by
    rcases r x hx with h | h
    · exact W.n1 x h
    · exact ⟨W.same.free h, (fun z => by rw [z, W.hbl] at h; cases h), (fun z => by rw [z, W.han] at h; cases h)⟩
  n2 := W.n2
  nan := W.nan
  ba := W.ba
theorem Wd.bd1 (W : Wd CD C H0 H pd p0 p1 bl an d b0 b1 R0 R1 R2 out) (B' : BoardAt C H' p1 b' R') (r : ∀ x, R' x → R2 x ∨ H x = none) (k : Kept H H' R2) : Wd CD C H0 H' pd p0 p1 bl an d b0 b' R0 R1 R' out where
  same := fun x o e => k x o (W.same x o e) fun z => by rw [(W.n2 x z).1] at e; cases e
  D := W.D.frame fun x hx => by
    obtain ⟨o, e⟩ := W.D.alloc hx
    rw [e]
    exact k x o e fun z => W.d02 x hx z
  B0 := W.B0.frame fun x hx => by
    obtain ⟨o, e⟩ := W.B0.alloc hx
    rw [e]
    exact k x o e fun z => W.d12 x hx z
  B1 := B'
  hbl := k _ _ W.hbl fun z => (W.n2 _ z).2.1 rfl
  han := k _ _ W.han fun z => (W.n2 _ z).2.2 rfl
  d01 := W.d01
  d02 := fun x hx z => by
    rcases r x z with h | h
    · exact W.d02 x hx h
    · exact W.D.not h hx
  d12 := fun x hx z => by
    rcases r x z with h | h
    · exact W.d12 x hx h
    · exact W.B0.not h hx
  n0 := W.n0
  n1 := W.n1
  n2 := fun x hx => by
    rcases r x hx with h | h
    · exact W.n2 x h
    · exact ⟨W.same.free h, (fun z => by rw [z, W.hbl] at h; cases h), (fun z => by rw [z, W.han] at h; cases h)⟩
  nan := W.nan
  ba := W.ba
theorem Wd.put (W : Wd CD C H0 H pd p0 p1 bl an d b0 b1 R0 R1 R2 out) (out' : List Int) : Wd CD C H0 (upd H an (.lst (out'.map V.int))) pd p0 p1 bl an d b0 b1 R0 R1 R2 out' :=
  { W with
    same := fun x o e => by rw [upd_ne (ne_of_none e W.nan)]; exact W.same x o e
    D := W.D.frame fun x hx => upd_ne (W.n0 x hx).2.2
    B0 := W.B0.frame fun x hx => upd_ne (W.n1 x hx).2.2
    B1 := W.B1.frame fun x hx => upd_ne (W.n2 x hx).2.2
    hbl := by rw [upd_ne W.ba]; exact W.hbl
    han := upd_same }
end
/-- the board that a call names -/
def pick {α : Type} (w : Nat) (x y : α) : α := if w = 0 then x else y
theorem Wd.board {CD : Addr} {C : Cl} {H0 H : Hp} {pd p0 p1 bl an : Addr} {d : Desk} {b0 b1 : Board} {R0 R1 R2 : Addr → Prop} {out : List Int} (W : Wd CD C H0 H pd p0 p1 bl an d b0 b1 R0 R1 R2 out) {w : Nat} (hw : w < 2) :
    BoardAt C H (pick w p0 p1) (pick w b0 b1) (pick w R1 R2) ∧ [V.ref p0, V.ref p1][w]? = some (.ref (pick w p0 p1)) := by
  match w, hw with
  | 0, _ => exact ⟨W.B0, rfl⟩
  | 1, _ => exact ⟨W.B1, rfl⟩
theorem pick_st {b0 b1 : Board} {o0 o1 : Option Board} (s0 : BSt o0 b0) (s1 : BSt o1 b1) {w : Nat} (hw : w < 2) : BSt ([o0, o1].getD w none) (pick w b0 b1) := by
  match w, hw with
  | 0, _ => exact s0
  | 1, _ => exact s1
theorem Wd.boarded {CD : Addr} {C : Cl} {H0 H H' : Hp} {pd p0 p1 bl an : Addr} {d : Desk} {b0 b1 b' : Board} {R0 R1 R2 R' : Addr → Prop} {out : List Int} {o0 o1 ob' : Option Board} (W : Wd CD C H0 H pd p0 p1 bl an d b0 b1 R0 R1 R2 out) (s0 : BSt o0 b0) (s1 : BSt o1 b1) {w : Nat} (hw : w < 2)
    (h1 : BoardAt C H' (pick w p0 p1) b' R') (h2 : ∀ x, R' x → pick w R1 R2 x ∨ H x = none) (h3 : Kept H H' (pick w R1 R2)) (h4 : BSt ob' b') :
    ∃ (o0' o1' : Option Board) (b0' b1' : Board) (R1' R2' : Addr → Prop), [o0, o1].set w ob' = [o0', o1'] ∧ BSt o0' b0' ∧ BSt o1' b1' ∧ Wd CD C H0 H' pd p0 p1 bl an d b0' b1' R0 R1' R2' out := by
  match w, hw with
  | 0, _ => exact ⟨ob', o1, b', b1, R', R2, rfl, h4, s1, W.bd0 h1 h2 h3⟩
  | 1, _ => exact ⟨o0, ob', b0, b', R1, R', rfl, s0, h4, W.bd1 h1 h2 h3⟩
theorem set_same {o0 o1 : Option Board} {w : Nat} (hw : w < 2) : [o0, o1].set w ([o0, o1].getD w none) = [o0, o1] := by
  match w, hw with
  | 0, _ => rfl
  | 1, _ => rfl
/-! ### parts of the list -/
theorem cut_mid {pre mid post : List Int} {lo hi : Int} (h1 : lo = (pre.length : Int)) (h2 : hi = ((pre.length + mid.length : Nat) : Int)) : cutV ((pre ++ (mid ++ post)).map V.int) (some lo) (some hi) = mid.map V.int := by
  unfold cutV
  rw [h1, h2, HT.sIx_nat, HT.sIx_nat, List.length_map, List.length_append, List.length_append, Nat.min_eq_left (by omega), Nat.min_eq_left (by omega), List.map_append, List.map_append]
  have e : (pre.map V.int).length = pre.length := List.length_map ..
  rw [← e, List.drop_left, List.length_map, Nat.add_sub_cancel_left]
  have e2 : (mid.map V.int).length = mid.length := List.length_map ..
  rw [← e2, List.take_left]
theorem cut_tail (x : V) (xs : List V) : cutV (x :: xs) (some 1) none = xs := by
  unfold cutV
  have e : HT.sIx (x :: xs).length 0 (some 1) = 1 := by
    rw [show (1 : Int) = ((1 : Nat) : Int) from rfl, HT.sIx_nat, List.length_cons]
    omega
  rw [e, HT.sIx_none, List.length_cons, List.drop_one, List.tail_cons, Nat.add_sub_cancel]
  exact List.take_length
theorem at_mid {pre post : List Int} {x z : Int} (h : z = (pre.length : Int)) : atI ((pre ++ (x :: post)).map V.int) z = some (V.int x) := by
  refine at_of (j := pre.length) h (vI_get ?_)
  rw [List.getElem?_append_right (Nat.le_refl _), Nat.sub_self]
  rfl
def nb : List Int := [2, 5, 1, 3, 1, 1, 3, 1, 1, 4, 2]
theorem nb_desk {x : Km345.Call} {k : Nat} {args : List Nat} (e : DEnc x k args) : nb[k]? = some (args.length : Int) ∧ k < 6 := by
  cases e <;> exact ⟨rfl, by decide⟩
theorem nb_board {x : Km345.Call} {k : Nat} {args : List Nat} {row : List Int} (e : BEnc x k args row) : nb[k]? = some ((args.length + 1 : Nat) : Int) ∧ 6 ≤ k ∧ (¬ (k = 7 ∨ k = 10) → row = []) := by
  cases e
  · exact ⟨rfl, by decide, fun _ => rfl⟩
  · exact ⟨rfl, by decide, fun h => absurd (.inl rfl) h⟩
  · exact ⟨rfl, by decide, fun _ => rfl⟩
  · exact ⟨rfl, by decide, fun _ => rfl⟩
  · exact ⟨rfl, by decide, fun h => absurd (.inr rfl) h⟩
theorem natsI_map (l : List Nat) : (natsI l).map V.int = nV l := by
  unfold natsI nV
  rw [List.map_map]
  rfl
theorem in_row (k : Nat) : inV (.int (k : Int)) [.int 7, .int 10] = decide (k = 7 ∨ k = 10) := by
  show (eqV (.int 7) (.int (k : Int)) || (eqV (.int 10) (.int (k : Int)) || false)) = _
  have e : ∀ i : Int, eqV (.int i) (.int (k : Int)) = decide (i = (k : Int)) := fun i => by
    show (i == (k : Int)) = _
    by_cases h : i = (k : Int)
    · rw [decide_eq_true h, beq_iff_eq.mpr h]
    · rw [decide_eq_false h]
      exact beq_eq_false_iff_ne.mpr h
  rw [e, e]
  by_cases h7 : k = 7
  · subst h7; rfl
  · by_cases h10 : k = 10
    · subst h10; rfl
    · rw [decide_eq_false (by omega), decide_eq_false (by omega), decide_eq_false (by omega)]
      rfl

/-! ### the loop -/
structure TxA (K : PySem.W.Frag) (mg : Str → Option Value) (tn : Addr) : Prop where
  tab : mg "NUMBERS_BEHIND" = some (.ref tn)
  tabs : ∀ H : Hp, SqT K H tn (nb.map V.int)
  len : mg "len" = none
/-- what holds whenever the loop is tested -/
def LoopAt (CD : Addr) (C : Cl) (ns : List Int) (H0 : Hp) (a pd p0 p1 bl an : Addr) (σ : L2.St) (H : Hp) : Prop :=
  ∃ (v5 v6 v7 v8 v9 : Option V) (pre : List Int) (rest : List Km345Neutral.Call) (od : Option Desk) (o0 o1 : Option Board) (d : Desk) (b0 b1 : Board) (R0 R1 R2 : Addr → Prop) (out : List Int),
    σ = [some (.ref a), some (.ref pd), some (.ref bl), some (.ref an), some (.int (pre.length : Int)), v5, v6, v7, v8, v9] ∧ ns = pre ++ PyFlat.put rest ∧ (∀ c ∈ rest, Km345Neutral.asked1 c = true) ∧ Km345Neutral.may ([od], [o0, o1]) rest = true ∧
    DSt od d ∧ BSt o0 b0 ∧ BSt o1 b1 ∧ Wd CD C H0 H pd p0 p1 bl an d b0 b1 R0 R1 R2 out ∧ PyKm345.answers ns = out ++ dueOf ([od], [o0, o1]) rest ∧ out.length + 401 * rest.length ≤ 401000
def leftOf (n : Nat) (σ : L2.St) : Nat := match (List.getD σ 4 none : Option V) with
  | some (V.int z) => n - z.toNat
  | _ => 0
section
variable {P : Program} {w : World} {K : PySem.W.Frag} {mg : Str → Option Value} {base : Heap} {C : Cl}
theorem scAn : FnScope ["calls", "desk", "boards", "answered", "place", "call", "behind", "numbers", "row", "answer"] ["calls"] (defScope sAns) := ⟨rfl, rfl, rfl, by decide +kernel, rfl, by decide +kernel, by decide +kernel⟩
theorem ok_ans {f fDI fBI fDA fBA CD tn : Addr} {fd fdDI fdBI fdDA fdBA : FuncData} (F : Fun K "answers" "answers" sAns f fd) (TA : TxA K mg tn) (TN : TxN mg)
    (MD : Mk K CD fDI) (mD : mg "Desk" = some (.ref CD)) (GDI : FnOk P w K mg base CX0 2 fDI fdDI ["self"] (spDInit CD C.O)) (bDI : Binds K fdDI ["self"] [])
    (MB : Mk K C.B fBI) (mB : mg "Board" = some (.ref C.B)) (GBI : FnOk P w K mg base CX0 4 fBI fdBI ["self"] (spBInit C)) (bBI : Binds K fdBI ["self"] [])
    (GDA : FnOk P w K mg base CX0 6 fDA fdDA ["desk", "call", "numbers"] (spDAns CD C.O)) (kDA : PySem.W.keepIn K (.ref fDA) = true) (bDA : Binds K fdDA ["desk", "call", "numbers"] []) (mDA : mg "desk_answer" = some (.ref fDA))
    (GBA : FnOk P w K mg base CX0 7 fBA fdBA ["board", "call", "numbers", "row"] (spBAns C)) (kBA : PySem.W.keepIn K (.ref fBA) = true) (bBA : Binds K fdBA ["board", "call", "numbers", "row"] []) (mBA : mg "board_answer" = some (.ref fBA)) :
    FnOk P w K mg base CX0 8 f fd ["calls"] (spAns K) := by
  obtain ⟨t6, n6⟩ := TN.n6
  obtain ⟨t7, n7⟩ := TN.n7
  obtain ⟨t10, n10⟩ := TN.n10
  refine F.ok scAn (fun vs H Q E h => ?_) (fun cdv A outer s H vs Q E hr h => ?_)
  · obtain ⟨a, ns, rfl, _⟩ := h
    rfl
  · obtain ⟨a, ns, rfl, hL, hask, q⟩ := h
    have r3 : Room 3 _ := hr.mono (by decide)
    have r5 : Room 5 _ := hr.mono (by decide)
    have r6 : Room 6 _ := hr.mono (by decide)
    refine ⟨_, pss_cons (ps_set (i := 1) scAn.nd rfl (Or.inl rfl) (pe_make0 MD GDI r3 rfl mD bDI .nil pass0))
      (pss_cons (ps_set (i := 2) scAn.nd rfl (Or.inl rfl) (pe_lst (pa_cons (pe_make0 MB GBI r5 rfl mB bBI .nil pass0) (pa_cons (pe_make0 MB GBI r5 rfl mB bBI .nil pass0) pa_nil))))
      (pss_cons (ps_set (i := 3) scAn.nd rfl (Or.inl rfl) (pe_lst pa_nil))
      (pss_cons (ps_set (i := 4) scAn.nd rfl (Or.inl rfl) pe_int)
      (pss_cons (ps_while PassesOwn.never (pt_cmpR op_lt (pv 4) (pe_callB call_len_seq rfl TA.len PySem.boot_len (pa_cons (pv 0) pa_nil)) (nomark _))
        (pss_cons (ps_set (i := 5) scAn.nd rfl (Or.inl rfl) (pe_ix ix_list (pv 0) (pv 4) (fun _ _ => rfl)))
        (pss_cons (ps_set (i := 6) scAn.nd rfl (Or.inl rfl) (pe_op op_add (pe_op op_add (pv 4) pe_int) (pe_ix ix_tup (pe_glob (v := .ref tn) rfl TA.tab rfl) (pv 5) (fun _ _ => rfl))))
        (pss_cons (ps_set (i := 7) scAn.nd rfl (Or.inl rfl) (pe_slice sl_list (pv 0) (po_some (pe_op op_add (pv 4) pe_int)) (po_some (pv 6))))
        (pss_cons (ps_set (i := 8) scAn.nd rfl (Or.inl rfl) (pe_lst pa_nil))
        (pss_cons (ps_if (pt_cmpR op_in_seq (pv 5) (pe_tup (pa_cons (pe_gint n7) (pa_cons (pe_gint n10) pa_nil))) (by with_unfolding_all rfl))
          (pss_cons (ps_set (i := 8) scAn.nd rfl (Or.inl rfl) (pe_slice sl_list (pv 0) (po_some (pe_op op_add (pv 6) pe_int)) (po_some (pe_op op_add (pe_op op_add (pv 6) pe_int) (pe_ix ix_list (pv 0) (pv 6) (fun _ _ => rfl))))))
          (pss_one (ps_aug (i := 6) scAn.nd rfl (Or.inl rfl) (pe_op op_add pe_int (pe_callB call_len_seq rfl TA.len PySem.boot_len (pa_cons (pv 8) pa_nil))) ip_add))) pss_nil)
        (pss_cons (ps_if (pt_cmpR op_lt (pv 5) (pe_gint n6) (nomark _))
          (pss_one (ps_set (i := 9) scAn.nd rfl (Or.inl rfl) (pe_call GDA r6 rfl mDA kDA bDA .nil pass0 (pa_cons (pv 1) (pa_cons (pv 5) (pa_cons (pv 7) pa_nil))))))
          (pss_one (ps_set (i := 9) scAn.nd rfl (Or.inl rfl) (pe_call GBA hr rfl mBA kBA bBA .nil pass0 (pa_cons (pe_ix ix_list (pv 2) (pe_ix ix_list (pv 7) pe_int (fun _ _ => rfl)) (fun _ _ => rfl)) (pa_cons (pv 5) (pa_cons (pe_slice sl_list (pv 7) (po_some pe_int) po_none) (pa_cons (pv 8) pa_nil))))))))
        (pss_cons (ps_expr (pe_bm PySem.F.plainAttrs_list PySem.F.slot_list_append PySem.F.type_list_append mt_append (pv 3) (pa_cons (pe_callB call_len_seq rfl TA.len PySem.boot_len (pa_cons (pv 9) pa_nil)) pa_nil)))
        (pss_cons (ps_expr (pe_bm PySem.F.plainAttrs_list PySem.F.slot_list_extend PySem.F.type_list_extend mt_extend (pv 3) (pa_cons (pv 9) pa_nil)))
        (pss_one (ps_set (i := 4) scAn.nd rfl (Or.inl rfl) (pv 6))))))))))))
      (pss_one (ps_ret (pv 3))))))), ?_⟩
    -- Desk()
    refine fun pd dxd npd ndxd _ => ⟨pd, dxd, rfl, upd_same, fun H1 R0 D0 r0 k0 => ⟨rfl, ?_⟩⟩
    have s1 : Same H H1 := Same.made npd ndxd k0
    have w0 : ∀ x, R0 x → H x = none := fun x hx => by
      rcases r0 x hx with rfl | h
      · exact npd
      · cases e : H x with
        | none => rfl
        | some u =>
          rw [upd_ne (ne_of_none e npd), upd_ne (ne_of_none e ndxd), e] at h
          cases h
    -- Board(), Board()
    refine fun p0 dx0 np0 ndx0 _ => ⟨p0, dx0, rfl, upd_same, fun H2 R1 B0 r1 k1 => ⟨rfl, ?_⟩⟩
    have s2 : Same H1 H2 := Same.made np0 ndx0 k1
    have w1 : ∀ x, R1 x → H1 x = none := fun x hx => by
      rcases r1 x hx with rfl | h
      · exact np0
      · cases e : H1 x with
        | none => rfl
        | some u =>
          rw [upd_ne (ne_of_none e np0), upd_ne (ne_of_none e ndx0), e] at h
          cases h
    refine fun p1 dx1 np1 ndx1 _ => ⟨p1, dx1, rfl, upd_same, fun H3 R2 B1 r2 k2 => ⟨rfl, ?_⟩⟩
    have s3 : Same H2 H3 := Same.made np1 ndx1 k2
    have w2 : ∀ x, R2 x → H2 x = none := fun x hx => by
      rcases r2 x hx with rfl | h
      · exact np1
      · cases e : H2 x with
        | none => rfl
        | some u =>
          rw [upd_ne (ne_of_none e np1), upd_ne (ne_of_none e ndx1), e] at h
          cases h
    refine ⟨(by show 2 ≤ sizeLine; decide), fun bl nbl => ⟨(by show 0 ≤ sizeLine; decide), fun an nan => ?_⟩⟩
    have s4 : Same H3 (upd H3 bl (.lst [.ref p0, .ref p1])) := same_new nbl
    have hbl : upd H3 bl (.lst [.ref p0, .ref p1]) bl = some (.lst [.ref p0, .ref p1]) := upd_same
    generalize upd H3 bl (.lst [.ref p0, .ref p1]) = H4 at s4 hbl nan
    have s5 : Same H4 (upd H4 an (.lst [])) := same_new nan
    have han : upd H4 an (.lst []) an = some (.lst (([] : List Int).map V.int)) := upd_same
    generalize upd H4 an (.lst []) = H5 at s5 han
    have s35 := s4.trans s5
    have D3 := D0.same (s2.trans s3)
    have B03 := B0.same s3
    have W : Wd CD C H H5 pd p0 p1 bl an (Km345.desk0 0 0) (Km345.board0 0 0) (Km345.board0 0 0) R0 R1 R2 [] :=
      { same := s1.trans (s2.trans (s3.trans s35)), D := D3.same s35, B0 := B03.same s35, B1 := B1.same s35, hbl := s5 _ _ hbl, han := han
        d01 := fun x h1 h2 => D0.not (w1 x h2) h1
        d02 := fun x h1 h2 => (D0.same s2).not (w2 x h2) h1
        d12 := fun x h1 h2 => B0.not (w2 x h2) h1
        n0 := fun x hx => ⟨w0 x hx, fun z => D3.not nbl (z ▸ hx), fun z => (D3.same s4).not nan (z ▸ hx)⟩
        n1 := fun x hx => ⟨s1.free (w1 x hx), fun z => B03.not nbl (z ▸ hx), fun z => (B03.same s4).not nan (z ▸ hx)⟩
        n2 := fun x hx => ⟨(s1.trans s2).free (w2 x hx), fun z => B1.not nbl (z ▸ hx), fun z => (B1.same s4).not nan (z ▸ hx)⟩
        nan := (s1.trans (s2.trans (s3.trans s4))).free nan
        ba := ne_of_none hbl nan }
    obtain ⟨cs, hcs⟩ := line_of hask
    have hb0 : BSt none (Km345.board0 0 0) := ⟨board0_ok (Nat.zero_le _) (Nat.zero_le _), .inr ⟨rfl, rfl⟩⟩
    have hmost := hcs.most
    refine while_by (LoopAt CD C ns H a pd p0 p1 bl an) (fun σ _ => leftOf ns.length σ) ⟨none, none, none, none, none, [], cs, none, none, none, _, _, _, R0, R1, R2, [], rfl, hcs.flat, hcs.good, hcs.comes, .inr ⟨rfl, rfl⟩, hb0, hb0, W, hcs.due, by rw [List.length_nil]; omega⟩ ?_ ?_
    · clear W D3 B03 hb0 s35 s5 s4 s3 s2 s1 hbl han nan nbl w0 w1 w2 r0 r1 r2 k0 k1 k2 D0 B0 B1 hcs hmost cs
      rintro σ H6 ⟨v5, v6, v7, v8, v9, pre, rest, od, o0, o1, d, b0, b1, R0, R1, R2, out, rfl, hns, hgood, hmay, sd, sb0, sb1, W, hdue, hout⟩
      have hL6 := sqL_same W.same hL
      refine ⟨_, rfl, _, rfl, a, _, rfl, .inl hL6, _, _, rfl, rfl, _, rfl, ?_⟩
      rw [List.length_map]
      cases rest with
      | nil =>
        have e : decide ((pre.length : Int) < (ns.length : Int)) = false := by
          rw [hns]
          show decide ((pre.length : Int) < ((pre ++ []).length : Int)) = false
          rw [List.append_nil]
          exact decide_eq_false (by omega)
        rw [e]
        have hdue : PyKm345.answers ns = out ++ [] := hdue
        rw [List.append_nil] at hdue
        exact iteF ⟨_, rfl, q H6 an (by rw [hdue]; exact W.han)⟩
      | cons c rest =>
        have hc := hgood c List.mem_cons_self
        obtain ⟨hne, hmay'⟩ := may_cons hmay
        rw [dueOf_cons] at hdue
        rw [List.length_cons] at hout
        have hgood' : ∀ x ∈ rest, Km345Neutral.asked1 x = true := fun x hx => hgood x (List.mem_cons_of_mem _ hx)
        have hns : ns = pre ++ (PyFlat.put1 c ++ PyFlat.put rest) := hns
        cases gform_of hc with
        | desk x k args e hs hp =>
          rw [hs] at hne hmay' hdue
          obtain ⟨h1, hok, od', h2, sd'⟩ := desk_step sd e hne
          rw [h2] at hmay'
          rw [h1, h2] at hdue
          obtain ⟨hnb, hk6⟩ := nb_desk e
          have hdl := dlen (d := d) e
          have e1 : ns = pre ++ ((k : Int) :: (natsI args ++ PyFlat.put rest)) := by rw [hns, hp]; rfl
          have e2 : ns = (pre ++ [(k : Int)]) ++ (natsI args ++ PyFlat.put rest) := by rw [e1, List.append_assoc]; rfl
          have hla : (natsI args).length = args.length := List.length_map ..
          have elen : ns.length = pre.length + 1 + args.length + (PyFlat.put rest).length := by
            rw [e1, List.length_append, List.length_cons, List.length_append, hla]
            omega
          have elt : decide ((pre.length : Int) < (ns.length : Int)) = true := decide_eq_true (by omega)
          rw [elt]
          refine iteT ?_
          refine ⟨_, rfl, _, rfl, a, _, _, _, rfl, rfl, hL6, by rw [e1]; exact at_mid rfl, ?_⟩
          refine ⟨_, rfl, _, _, rfl, rfl, _, rfl, tn, _, _, _, rfl, rfl, TA.tabs _, at_of (j := k) rfl (vI_get hnb), _, _, rfl, rfl, ?_⟩
          refine ⟨_, rfl, _, rfl, _, _, rfl, rfl, _, rfl, _, rfl, _, rfl, a, _, rfl, hL6, fun na nna => ?_⟩
          have ecut : cutV (ns.map V.int) (some ((pre.length : Int) + 1)) (some ((pre.length : Int) + 1 + (args.length : Int))) = nV args := by
            rw [e2, cut_mid (by rw [List.length_append, List.length_singleton]; omega) (by rw [List.length_append, List.length_singleton, hla]; omega), natsI_map]
          rw [ecut]
          have s7 : Same H6 (upd H6 na (.lst (nV args))) := same_new nna
          have hna : upd H6 na (.lst (nV args)) na = some (.lst (nV args)) := upd_same
          generalize upd H6 na (.lst (nV args)) = H7 at s7 hna
          refine ⟨(by show 0 ≤ sizeLine; decide), fun ra nra => ?_⟩
          have s8 : Same H7 (upd H7 ra (.lst [])) := same_new nra
          generalize upd H7 ra (.lst []) = H8 at s8
          refine ⟨_, rfl, (by show 2 ≤ sizeLine; decide), fun tp ntp => ⟨tp, _, rfl, .inr (.inl (.inl upd_same)), rfl, rfl, _, rfl, ?_⟩⟩
          have s9 : Same H8 (upd H8 tp (.tup [.int 7, .int 10])) := same_new ntp
          generalize upd H8 tp (.tup [.int 7, .int 10]) = H9 at s9
          have ein : inV (.int (k : Int)) [.int 7, .int 10] = false := by rw [in_row]; exact decide_eq_false (by omega)
          show if inV (.int (k : Int)) [.int 7, .int 10] = true then _ else _
          rw [ein]
          refine iteF ?_
          refine ⟨_, rfl, _, _, rfl, rfl, _, rfl, ?_⟩
          rw [decide_eq_true (show (k : Int) < 6 by omega)]
          refine iteT ?_
          have s69 := s7.trans (s8.trans s9)
          have W9 := W.grow s69
          refine ⟨_, rfl, _, rfl, _, rfl, pd, na, d, R0, x, k, args, rfl, e, (s8.trans s9) _ _ hna, W9.D, hok, fun H10 R' r D' r' k' hr' nr nR => ?_⟩
          have W10 := W9.desk D' r' k'
          have nra' : r ≠ an := fun z => by rw [z, W9.han] at nr; cases nr
          refine ⟨_, rfl, .inl ⟨rfl, _, SqL.of W10.han⟩, _, rfl, r, _, rfl, .inl (SqL.of hr'), an, _, _, rfl, rfl, W10.han, ?_, ?_⟩
          · rw [List.length_map]
            exact Nat.lt_of_le_of_lt (show out.length ≤ 401000 by omega) (by decide)
          have eo : out.map V.int ++ [V.int (((Km345Neutral.told (Km345.dDoes d x).2).map V.int).length : Int)] = (out ++ [((Km345Neutral.told (Km345.dDoes d x).2).length : Int)]).map V.int := by
            rw [List.map_append, List.length_map]
            rfl
          rw [eo]
          have W11 := W10.put (out ++ [((Km345Neutral.told (Km345.dDoes d x).2).length : Int)])
          refine ⟨_, rfl, .inl ⟨rfl, _, SqL.of upd_same⟩, _, rfl, an, r, _, _, rfl, rfl, upd_same, by rw [upd_ne nra']; exact hr', ?_, ?_⟩
          · rw [List.length_map, List.length_append, List.length_singleton, List.length_map]
            exact Nat.le_trans (show _ ≤ 402000 by omega) (by decide)
          rw [← List.map_append]
          have W12 := W11.put ((out ++ [((Km345Neutral.told (Km345.dDoes d x).2).length : Int)]) ++ Km345Neutral.told (Km345.dDoes d x).2)
          refine ⟨_, rfl, ⟨some (.int (k : Int)), some (.int ((pre.length : Int) + 1 + (args.length : Int))), some (.ref na), some (.ref ra), some (.ref r), pre ++ PyFlat.put1 c, rest, od', o0, o1, _, b0, b1, R', R1, R2, _, ?_, ?_, hgood', hmay', sd', sb0, sb1, W12, ?_, ?_⟩, ?_⟩
          · have ep : ((pre ++ PyFlat.put1 c).length : Int) = (pre.length : Int) + 1 + (args.length : Int) := by
              rw [hp, List.length_append, List.length_cons, hla]
              omega
            rw [ep]
            rfl
          · rw [hns, List.append_assoc]
          · rw [hdue]
            simp only [List.append_assoc, List.cons_append, List.nil_append]
          · rw [List.length_append, List.length_append, List.length_singleton]
            omega
          · show ns.length - ((pre.length : Int) + 1 + (args.length : Int)).toNat < ns.length - ((pre.length : Int)).toNat
            omega
        | board x k w args row e hs hp =>
          have hw : w < 2 := by
            rcases Nat.lt_or_ge w 2 with h | h
            · exact h
            · exact absurd (show (Km345Neutral.step ([od], [o0, o1]) c).2 = [] by rw [hs]; exact congrArg Prod.snd (if_pos h)) hne
          rw [hs] at hne hmay' hdue
          have sbw := pick_st sb0 sb1 hw
          obtain ⟨h1, ob', h2, sb'⟩ := board_step1 sbw e hw rfl hne
          have h2 : (Km345Neutral.step1 ([od], [o0, o1]) w x).1 = ([od], [o0, o1].set w ob') := by
            rcases h2 with h | ⟨h, h'⟩
            · exact h
            · rw [h, h', set_same hw]
          rw [h2] at hmay'
          rw [h1, h2] at hdue
          obtain ⟨hnb, hk6, hrow0⟩ := nb_board e
          have hbl := blen e sbw.1
          have e1 : ns = pre ++ ((k : Int) :: (natsI (w :: args) ++ (rowOf? k row ++ PyFlat.put rest))) := by rw [hns, hp]; simp only [List.append_assoc, List.cons_append]
          have e2 : ns = (pre ++ [(k : Int)]) ++ (natsI (w :: args) ++ (rowOf? k row ++ PyFlat.put rest)) := by rw [e1, List.append_assoc]; rfl
          have hla : (natsI (w :: args)).length = args.length + 1 := List.length_map ..
          have elen : ns.length = pre.length + 1 + (args.length + 1) + (rowOf? k row).length + (PyFlat.put rest).length := by
            rw [e1, List.length_append, List.length_cons, List.length_append, List.length_append, hla]
            omega
          have elt : decide ((pre.length : Int) < (ns.length : Int)) = true := decide_eq_true (by omega)
          rw [elt]
          refine iteT ?_
          refine ⟨_, rfl, _, rfl, a, _, _, _, rfl, rfl, hL6, by rw [e1]; exact at_mid rfl, ?_⟩
          refine ⟨_, rfl, _, _, rfl, rfl, _, rfl, tn, _, _, _, rfl, rfl, TA.tabs _, at_of (j := k) rfl (vI_get hnb), _, _, rfl, rfl, ?_⟩
          refine ⟨_, rfl, _, rfl, _, _, rfl, rfl, _, rfl, _, rfl, _, rfl, a, _, rfl, hL6, fun na nna => ?_⟩
          have ecut : cutV (ns.map V.int) (some ((pre.length : Int) + 1)) (some ((pre.length : Int) + 1 + ((args.length + 1 : Nat) : Int))) = nV (w :: args) := by
            rw [e2, cut_mid (by rw [List.length_append, List.length_singleton]; omega) (by rw [List.length_append, List.length_singleton, hla]; omega), natsI_map]
          rw [ecut]
          have s7 : Same H6 (upd H6 na (.lst (nV (w :: args)))) := same_new nna
          have hna : upd H6 na (.lst (nV (w :: args))) na = some (.lst (nV (w :: args))) := upd_same
          generalize upd H6 na (.lst (nV (w :: args))) = H7 at s7 hna
          refine ⟨(by show 0 ≤ sizeLine; decide), fun ra nra => ?_⟩
          have s8 : Same H7 (upd H7 ra (.lst [])) := same_new nra
          have hra0 : upd H7 ra (.lst []) ra = some (.lst (([] : List Int).map V.int)) := upd_same
          generalize upd H7 ra (.lst []) = H8 at s8 hra0
          refine ⟨_, rfl, (by show 2 ≤ sizeLine; decide), fun tp ntp => ⟨tp, _, rfl, .inr (.inl (.inl upd_same)), rfl, rfl, _, rfl, ?_⟩⟩
          have s9 : Same H8 (upd H8 tp (.tup [.int 7, .int 10])) := same_new ntp
          generalize upd H8 tp (.tup [.int 7, .int 10]) = H9 at s9
          have s69 := s7.trans (s8.trans s9)
          show if inV (.int (k : Int)) [.int 7, .int 10] = true then _ else _
          rw [in_row]
          refine ite2 (fun hc => ?caseA) (fun hc => ?caseB)
          case' caseA =>
            have hc := of_decide_eq_true hc
            have er : rowOf? k row = (row.length : Int) :: row := if_pos hc
            have e3 : ns = ((pre ++ [(k : Int)]) ++ natsI (w :: args)) ++ ((row.length : Int) :: (row ++ PyFlat.put rest)) := by rw [e2, er]; simp only [List.append_assoc, List.cons_append]
            have e4 : ns = (((pre ++ [(k : Int)]) ++ natsI (w :: args)) ++ [(row.length : Int)]) ++ (row ++ PyFlat.put rest) := by rw [e3]; simp only [List.append_assoc, List.cons_append, List.nil_append]
            have hL9 := sqL_same (W.same.trans s69) hL
            have l3 : (((pre ++ [(k : Int)]) ++ natsI (w :: args)).length : Int) = (pre.length : Int) + 1 + ((args.length + 1 : Nat) : Int) := by
              rw [List.length_append, List.length_append, List.length_singleton, hla]
              omega
            refine ⟨_, rfl, _, rfl, _, _, rfl, rfl, _, rfl, _, rfl, _, _, rfl, rfl, _, rfl, _, rfl, a, _, _, _, rfl, rfl, hL9, by rw [e3]; exact at_mid l3.symm, _, _, rfl, rfl, _, rfl, a, _, rfl, hL9, fun rr nrr => ?_⟩
            have ecut2 : cutV (ns.map V.int) (some ((pre.length : Int) + 1 + ((args.length + 1 : Nat) : Int) + 1)) (some ((pre.length : Int) + 1 + ((args.length + 1 : Nat) : Int) + 1 + (row.length : Int))) = row.map V.int := by
              rw [e4, cut_mid (by rw [List.length_append, List.length_singleton]; omega) (by rw [List.length_append, List.length_singleton]; omega)]
            rw [ecut2]
            have sA' : Same H9 (upd H9 rr (.lst (row.map V.int))) := same_new nrr
            have hrr : upd H9 rr (.lst (row.map V.int)) rr = some (.lst (row.map V.int)) := upd_same
            refine ⟨_, rfl, _, rfl, rr, _, rfl, .inl (SqL.of hrr), _, _, rfl, rfl, _, _, rfl, rfl, ?_⟩
            generalize upd H9 rr (.lst (row.map V.int)) = HA at sA' hrr
            have sA := s69.trans sA'
            have hnaA := (s8.trans (s9.trans sA')) _ _ hna
            rw [List.length_map]
            have hbh : (pre.length : Int) + 1 + ((args.length + 1 : Nat) : Int) + (1 + (row.length : Int)) = ((pre ++ PyFlat.put1 c).length : Int) := by
              rw [hp, er, List.length_append, List.length_append, List.length_cons, List.length_cons, hla]
              omega
          case' caseB =>
            have hc : ¬ (k = 7 ∨ k = 10) := fun z => hc (decide_eq_true z)
            have er : rowOf? k row = [] := if_neg hc
            have erow := hrow0 hc
            subst erow
            obtain ⟨rr, err⟩ : ∃ rr, rr = ra := ⟨ra, rfl⟩
            subst err
            have hrr := s9 _ _ hra0
            have sA := s69
            have hnaA := (s8.trans s9) _ _ hna
            have hbh : (pre.length : Int) + 1 + ((args.length + 1 : Nat) : Int) = ((pre ++ PyFlat.put1 c).length : Int) := by
              rw [hp, er, List.append_nil, List.length_append, List.length_cons, hla]
              omega
          all_goals
            have WA := W.grow sA
            obtain ⟨hB, hpw⟩ := WA.board hw
            refine ⟨_, rfl, _, _, rfl, rfl, _, rfl, ?_⟩
            rw [decide_eq_false (show ¬ (k : Int) < 6 by omega)]
            refine iteF ?_
            refine ⟨_, rfl, _, rfl, na, _, _, _, rfl, rfl, SqL.of hnaA, at_nV (j := 0) rfl, bl, _, _, _, rfl, rfl, SqL.of WA.hbl, at_of (j := w) rfl hpw, _, rfl, _, rfl, _, rfl, na, _, rfl, SqL.of hnaA, fun n2 nn2 => ?_⟩
            have ect : cutV (nV (w :: args)) (some 1) none = nV args := cut_tail _ _
            rw [ect]
            have sB' := same_new (o := .lst (nV args)) nn2
            have WB := WA.grow sB'
            refine ⟨_, rfl, pick w p0 p1, n2, _, pick w b0 b1, pick w R1 R2, x, k, args, _, rfl, e, upd_same, sB' _ _ hrr, sbw.1, (WB.board hw).1, fun H10 R' r B' r' k' hr' nr nR => ?_⟩
            obtain ⟨o0', o1', b0', b1', R1', R2', hset, st0, st1, W10⟩ := WB.boarded sb0 sb1 hw B' r' k' sb'
            rw [hset] at hmay' hdue
            have nra' : r ≠ an := fun z => by rw [z, WB.han] at nr; cases nr
            refine ⟨_, rfl, .inl ⟨rfl, _, SqL.of W10.han⟩, _, rfl, r, _, rfl, .inl (SqL.of hr'), an, _, _, rfl, rfl, W10.han, ?_, ?_⟩
            · rw [List.length_map]
              exact Nat.lt_of_le_of_lt (show out.length ≤ 401000 by omega) (by decide)
            have eo : out.map V.int ++ [V.int (((Km345Neutral.told (Km345.bDoes (pick w b0 b1) x).2).map V.int).length : Int)] = (out ++ [((Km345Neutral.told (Km345.bDoes (pick w b0 b1) x).2).length : Int)]).map V.int := by
              rw [List.map_append, List.length_map]
              rfl
            rw [eo]
            have W11 := W10.put (out ++ [((Km345Neutral.told (Km345.bDoes (pick w b0 b1) x).2).length : Int)])
            refine ⟨_, rfl, .inl ⟨rfl, _, SqL.of upd_same⟩, _, rfl, an, r, _, _, rfl, rfl, upd_same, by rw [upd_ne nra']; exact hr', ?_, ?_⟩
            · rw [List.length_map, List.length_append, List.length_singleton, List.length_map]
              exact Nat.le_trans (show _ ≤ 402000 by omega) (by decide)
            rw [← List.map_append]
            have W12 := W11.put ((out ++ [((Km345Neutral.told (Km345.bDoes (pick w b0 b1) x).2).length : Int)]) ++ Km345Neutral.told (Km345.bDoes (pick w b0 b1) x).2)
            have hpl : (pre ++ PyFlat.put1 c).length ≤ ns.length ∧ pre.length < (pre ++ PyFlat.put1 c).length := by
              constructor
              · rw [hns, ← List.append_assoc, List.length_append (as := pre ++ PyFlat.put1 c)]
                omega
              · rw [List.length_append, hp, List.length_append, List.length_cons]
                omega
            refine ⟨_, rfl, ⟨some (.int (k : Int)), some (.int ((pre ++ PyFlat.put1 c).length : Int)), some (.ref na), some (.ref rr), some (.ref r), pre ++ PyFlat.put1 c, rest, od, o0', o1', d, b0', b1', R0, R1', R2', _, ?_, ?_, hgood', hmay', sd, st0, st1, W12, ?_, ?_⟩, ?_⟩
            · rw [← hbh]
              rfl
            · rw [hns, List.append_assoc]
            · rw [hdue]
              simp only [List.append_assoc, List.cons_append, List.nil_append]
            · rw [List.length_append, List.length_append, List.length_singleton]
              omega
            · have hz : (((pre ++ PyFlat.put1 c).length : Nat) : Int).toNat = (pre ++ PyFlat.put1 c).length := Int.toNat_natCast _
              rw [← hbh] at hz
              have hz0 : ((pre.length : Nat) : Int).toNat = pre.length := Int.toNat_natCast _
              show ns.length - _ < ns.length - ((pre.length : Nat) : Int).toNat
              rw [hz0]
              refine Nat.lt_of_le_of_lt (Nat.le_of_eq (congrArg (fun z => ns.length - z) hz)) ?_
              show ns.length - (pre ++ PyFlat.put1 c).length < ns.length - pre.length
              omega
    · rintro σ H6 Q1 Q2 hq ⟨v, e1, x, e2, p, ys, e3, e4, i, j, e5, e6, k, e7, e8⟩
      exact ⟨v, e1, x, e2, p, ys, e3, e4, i, j, e5, e6, k, e7, hq _ _ e8⟩
end
end Sb

set_option Elab.async false
set_option maxRecDepth 100000
set_option maxHeartbeats 4000000
/-! What the top has written, put together. -/
namespace Sb
open PySem PySem.Spec PyProof.Rows L2
open PySem.W (Codec)
theorem all_mk {P : Program} {w : World} {K : PySem.W.Frag} {h : Heap} {mg : Str → Option Value} {fa CO f1 CS f2 CT f3 CB f4 f5 f6 f7 f8 f9 f10 f11 f12 f13 f14 f15 CD f16 f17 f18 f19 f20 f21 f22 f23 f24 f25 f26 f27 f28 f29 f30 f31 f32 f33 f34 f35 f36 f37 f38 f39 f40 f41 ta_NUMBERS_BEHIND : Addr} {od1 an1 od2 an2 od3 an3 od4 an4 od5 an5 od6 an6 od7 an7 od8 an8 od9 an9 od10 an10 od11 an11 od12 an12 od13 an13 od14 an14 od15 an15 od16 an16 od17 an17 od18 an18 od19 an19 od20 an20 od21 an21 od22 an22 od23 an23 od24 an24 od25 an25 od26 an26 od27 an27 od28 an28 od29 an29 od30 an30 od31 an31 od32 an32 od33 an33 od34 an34 od35 an35 od36 an36 od37 an37 od38 an38 od39 an39 od40 an40 od41 an41 td_NUMBERS_BEHIND : Option Addr} {sl1 sl2 sl3 sl4 sl5 sl6 sl7 sl8 sl9 sl10 sl11 sl12 sl13 sl14 sl15 sl16 sl17 sl18 sl19 sl20 sl21 sl22 sl23 sl24 sl25 sl26 sl27 sl28 sl29 sl30 sl31 sl32 sl33 sl34 sl35 sl36 sl37 sl38 sl39 sl40 sl41 ts_NUMBERS_BEHIND : Array (Option Value)} {oc1 kV1 dc1 pm1 cd1 ct1 oc2 kV2 dc2 pm2 cd2 ct2 oc3 kV3 dc3 pm3 cd3 ct3 oc4 kV4 dc4 pm4 cd4 ct4 oc5 kV5 dc5 pm5 cd5 ct5 oc6 kV6 dc6 pm6 cd6 ct6 oc7 kV7 dc7 pm7 cd7 ct7 oc8 kV8 dc8 pm8 cd8 ct8 oc9 kV9 dc9 pm9 cd9 ct9 oc10 kV10 dc10 pm10 cd10 ct10 oc11 kV11 dc11 pm11 cd11 ct11 oc12 kV12 dc12 pm12 cd12 ct12 oc13 kV13 dc13 pm13 cd13 ct13 oc14 kV14 dc14 pm14 cd14 ct14 oc15 kV15 dc15 pm15 cd15 ct15 oc16 kV16 dc16 pm16 cd16 ct16 oc17 kV17 dc17 pm17 cd17 ct17 oc18 kV18 dc18 pm18 cd18 ct18 oc19 kV19 dc19 pm19 cd19 ct19 oc20 kV20 dc20 pm20 cd20 ct20 oc21 kV21 dc21 pm21 cd21 ct21 oc22 kV22 dc22 pm22 cd22 ct22 oc23 kV23 dc23 pm23 cd23 ct23 oc24 kV24 dc24 pm24 cd24 ct24 oc25 kV25 dc25 pm25 cd25 ct25 oc26 kV26 dc26 pm26 cd26 ct26 oc27 kV27 dc27 pm27 cd27 ct27 oc28 kV28 dc28 pm28 cd28 ct28 oc29 kV29 dc29 pm29 cd29 ct29 oc30 kV30 dc30 pm30 cd30 ct30 oc31 kV31 dc31 pm31 cd31 ct31 oc32 kV32 dc32 pm32 cd32 ct32 oc33 kV33 dc33 pm33 cd33 ct33 oc34 kV34 dc34 pm34 cd34 ct34 oc35 kV35 dc35 pm35 cd35 ct35 oc36 kV36 dc36 pm36 cd36 ct36 oc37 kV37 dc37 pm37 cd37 ct37 oc38 kV38 dc38 pm38 cd38 ct38 oc39 kV39 dc39 pm39 cd39 ct39 oc40 kV40 dc40 pm40 cd40 ct40 oc41 kV41 dc41 pm41 cd41 ct41 : Value} {t_CHANNELS_MOST t_BUSES_MOST t_ORDERS_MOST t_UNIT t_FADE_MOST t_TIME_END t_NOT_THERE t_NONE_LACKS t_TOO_EARLY t_NOT_AS_TOLD t_NO_ROOM t_NOT_RIGHT t_ORDER_KIND t_SEAL_KIND t_ALL_ONES t_POLYNOMIAL t_BLOCK t_OUT_SIZE t_LOWEST t_HIGHEST t_NOT_WHOLE t_SCENES t_SD_START t_SD_SET t_SD_KEEP t_SD_GO t_SD_SEAL t_SB_START t_SB_HEARD t_SB_LACKS t_SB_GAIN t_SB_MIX tt_NUMBERS_BEHIND_0 tt_NUMBERS_BEHIND_1 tt_NUMBERS_BEHIND_2 tt_NUMBERS_BEHIND_3 tt_NUMBERS_BEHIND_4 tt_NUMBERS_BEHIND_5 tt_NUMBERS_BEHIND_6 tt_NUMBERS_BEHIND_7 tt_NUMBERS_BEHIND_8 tt_NUMBERS_BEHIND_9 tt_NUMBERS_BEHIND_10 : Tok} {tn_NUMBERS_BEHIND : Nat} (X : K.In h) (G : h.Ns mainGlobals mg) (hfa : mg "answers" = some (.ref fa))
    (aCCO : PySem.W.nsIn K mainGlobals "Order" = some (some (.ref CO)))
    (a1 : PySem.W.findIn K (.ref CO) "__init__" = some (some (.ref f1)))
    (i1 : PySem.W.isFn K (.ref f1) = true)
    (l1 : K.lookup f1 = some ⟨oc1, od1, .func (PySem.W.fnOf "__init__" "Order.__init__" (defArgs sOInit) (defBody sOInit) (defScope sOInit) .none kV1 dc1 pm1 an1 cd1 ct1), sl1⟩)
    (c1 : PySem.W.codeIn K cd1 "Order.__init__" = true)
    (k1 : PySem.W.keepIn K (.ref f1) = true)
    (pgCO : PySem.W.plainGet K CO Str.empty = true)
    (hdCO : PySem.W.hasDictIn K CO = true)
    (poCO : PySem.W.plainOver K CO = true)
    (saCO : PySem.W.findIn K (.ref CO) "__setattr__" = some (some (.builtin "object.__setattr__")))
    (mkCO : PySem.W.makesIn K CO = true)
    (kcCO : PySem.W.keepIn K (.ref CO) = true)
    (nCO_number : PySem.W.findIn K (.ref CO) "number" = some none)
    (nCO_time : PySem.W.findIn K (.ref CO) "time" = some none)
    (nCO_channel : PySem.W.findIn K (.ref CO) "channel" = some none)
    (nCO_bus : PySem.W.findIn K (.ref CO) "bus" = some none)
    (nCO_gain : PySem.W.findIn K (.ref CO) "gain" = some none)
    (nCO_fade : PySem.W.findIn K (.ref CO) "fade" = some none)
    (aCCS : PySem.W.nsIn K mainGlobals "Seal" = some (some (.ref CS)))
    (a2 : PySem.W.findIn K (.ref CS) "__init__" = some (some (.ref f2)))
    (i2 : PySem.W.isFn K (.ref f2) = true)
    (l2 : K.lookup f2 = some ⟨oc2, od2, .func (PySem.W.fnOf "__init__" "Seal.__init__" (defArgs sSInit) (defBody sSInit) (defScope sSInit) .none kV2 dc2 pm2 an2 cd2 ct2), sl2⟩)
    (c2 : PySem.W.codeIn K cd2 "Seal.__init__" = true)
    (k2 : PySem.W.keepIn K (.ref f2) = true)
    (pgCS : PySem.W.plainGet K CS Str.empty = true)
    (hdCS : PySem.W.hasDictIn K CS = true)
    (poCS : PySem.W.plainOver K CS = true)
    (saCS : PySem.W.findIn K (.ref CS) "__setattr__" = some (some (.builtin "object.__setattr__")))
    (mkCS : PySem.W.makesIn K CS = true)
    (kcCS : PySem.W.keepIn K (.ref CS) = true)
    (nCS_number : PySem.W.findIn K (.ref CS) "number" = some none)
    (nCS_time : PySem.W.findIn K (.ref CS) "time" = some none)
    (aCCT : PySem.W.nsIn K mainGlobals "Step" = some (some (.ref CT)))
    (a3 : PySem.W.findIn K (.ref CT) "__init__" = some (some (.ref f3)))
    (i3 : PySem.W.isFn K (.ref f3) = true)
    (l3 : K.lookup f3 = some ⟨oc3, od3, .func (PySem.W.fnOf "__init__" "Step.__init__" (defArgs sTInit) (defBody sTInit) (defScope sTInit) .none kV3 dc3 pm3 an3 cd3 ct3), sl3⟩)
    (c3 : PySem.W.codeIn K cd3 "Step.__init__" = true)
    (k3 : PySem.W.keepIn K (.ref f3) = true)
    (pgCT : PySem.W.plainGet K CT Str.empty = true)
    (hdCT : PySem.W.hasDictIn K CT = true)
    (poCT : PySem.W.plainOver K CT = true)
    (saCT : PySem.W.findIn K (.ref CT) "__setattr__" = some (some (.builtin "object.__setattr__")))
    (mkCT : PySem.W.makesIn K CT = true)
    (kcCT : PySem.W.keepIn K (.ref CT) = true)
    (nCT_order : PySem.W.findIn K (.ref CT) "order" = some none)
    (nCT_begun : PySem.W.findIn K (.ref CT) "begun" = some none)
    (aCCB : PySem.W.nsIn K mainGlobals "Board" = some (some (.ref CB)))
    (a4 : PySem.W.findIn K (.ref CB) "__init__" = some (some (.ref f4)))
    (i4 : PySem.W.isFn K (.ref f4) = true)
    (l4 : K.lookup f4 = some ⟨oc4, od4, .func (PySem.W.fnOf "__init__" "Board.__init__" (defArgs sBInit) (defBody sBInit) (defScope sBInit) .none kV4 dc4 pm4 an4 cd4 ct4), sl4⟩)
    (c4 : PySem.W.codeIn K cd4 "Board.__init__" = true)
    (k4 : PySem.W.keepIn K (.ref f4) = true)
    (a5 : PySem.W.findIn K (.ref CB) "begin" = some (some (.ref f5)))
    (i5 : PySem.W.isFn K (.ref f5) = true)
    (l5 : K.lookup f5 = some ⟨oc5, od5, .func (PySem.W.fnOf "begin" "Board.begin" (defArgs sBBegin) (defBody sBBegin) (defScope sBBegin) .none kV5 dc5 pm5 an5 cd5 ct5), sl5⟩)
    (c5 : PySem.W.codeIn K cd5 "Board.begin" = true)
    (k5 : PySem.W.keepIn K (.ref f5) = true)
    (a6 : PySem.W.findIn K (.ref CB) "sb_start" = some (some (.ref f6)))
    (i6 : PySem.W.isFn K (.ref f6) = true)
    (l6 : K.lookup f6 = some ⟨oc6, od6, .func (PySem.W.fnOf "sb_start" "Board.sb_start" (defArgs sBStart) (defBody sBStart) (defScope sBStart) .none kV6 dc6 pm6 an6 cd6 ct6), sl6⟩)
    (c6 : PySem.W.codeIn K cd6 "Board.sb_start" = true)
    (k6 : PySem.W.keepIn K (.ref f6) = true)
    (a7 : PySem.W.findIn K (.ref CB) "sb_heard" = some (some (.ref f7)))
    (i7 : PySem.W.isFn K (.ref f7) = true)
    (l7 : K.lookup f7 = some ⟨oc7, od7, .func (PySem.W.fnOf "sb_heard" "Board.sb_heard" (defArgs sBHeard) (defBody sBHeard) (defScope sBHeard) .none kV7 dc7 pm7 an7 cd7 ct7), sl7⟩)
    (c7 : PySem.W.codeIn K cd7 "Board.sb_heard" = true)
    (k7 : PySem.W.keepIn K (.ref f7) = true)
    (a8 : PySem.W.findIn K (.ref CB) "hear_seal" = some (some (.ref f8)))
    (i8 : PySem.W.isFn K (.ref f8) = true)
    (l8 : K.lookup f8 = some ⟨oc8, od8, .func (PySem.W.fnOf "hear_seal" "Board.hear_seal" (defArgs sBHSeal) (defBody sBHSeal) (defScope sBHSeal) .none kV8 dc8 pm8 an8 cd8 ct8), sl8⟩)
    (c8 : PySem.W.codeIn K cd8 "Board.hear_seal" = true)
    (k8 : PySem.W.keepIn K (.ref f8) = true)
    (a9 : PySem.W.findIn K (.ref CB) "hear_order" = some (some (.ref f9)))
    (i9 : PySem.W.isFn K (.ref f9) = true)
    (l9 : K.lookup f9 = some ⟨oc9, od9, .func (PySem.W.fnOf "hear_order" "Board.hear_order" (defArgs sBHOrd) (defBody sBHOrd) (defScope sBHOrd) .none kV9 dc9 pm9 an9 cd9 ct9), sl9⟩)
    (c9 : PySem.W.codeIn K cd9 "Board.hear_order" = true)
    (k9 : PySem.W.keepIn K (.ref f9) = true)
    (a10 : PySem.W.findIn K (.ref CB) "sb_lacks" = some (some (.ref f10)))
    (i10 : PySem.W.isFn K (.ref f10) = true)
    (l10 : K.lookup f10 = some ⟨oc10, od10, .func (PySem.W.fnOf "sb_lacks" "Board.sb_lacks" (defArgs sBLacks) (defBody sBLacks) (defScope sBLacks) .none kV10 dc10 pm10 an10 cd10 ct10), sl10⟩)
    (c10 : PySem.W.codeIn K cd10 "Board.sb_lacks" = true)
    (k10 : PySem.W.keepIn K (.ref f10) = true)
    (a11 : PySem.W.findIn K (.ref CB) "is_whole" = some (some (.ref f11)))
    (i11 : PySem.W.isFn K (.ref f11) = true)
    (l11 : K.lookup f11 = some ⟨oc11, od11, .func (PySem.W.fnOf "is_whole" "Board.is_whole" (defArgs sBWhole) (defBody sBWhole) (defScope sBWhole) .none kV11 dc11 pm11 an11 cd11 ct11), sl11⟩)
    (c11 : PySem.W.codeIn K cd11 "Board.is_whole" = true)
    (k11 : PySem.W.keepIn K (.ref f11) = true)
    (a12 : PySem.W.findIn K (.ref CB) "sb_gain" = some (some (.ref f12)))
    (i12 : PySem.W.isFn K (.ref f12) = true)
    (l12 : K.lookup f12 = some ⟨oc12, od12, .func (PySem.W.fnOf "sb_gain" "Board.sb_gain" (defArgs sBGain) (defBody sBGain) (defScope sBGain) .none kV12 dc12 pm12 an12 cd12 ct12), sl12⟩)
    (c12 : PySem.W.codeIn K cd12 "Board.sb_gain" = true)
    (k12 : PySem.W.keepIn K (.ref f12) = true)
    (a13 : PySem.W.findIn K (.ref CB) "gain_at" = some (some (.ref f13)))
    (i13 : PySem.W.isFn K (.ref f13) = true)
    (l13 : K.lookup f13 = some ⟨oc13, od13, .func (PySem.W.fnOf "gain_at" "Board.gain_at" (defArgs sBGAt) (defBody sBGAt) (defScope sBGAt) .none kV13 dc13 pm13 an13 cd13 ct13), sl13⟩)
    (c13 : PySem.W.codeIn K cd13 "Board.gain_at" = true)
    (k13 : PySem.W.keepIn K (.ref f13) = true)
    (a14 : PySem.W.findIn K (.ref CB) "sb_mix" = some (some (.ref f14)))
    (i14 : PySem.W.isFn K (.ref f14) = true)
    (l14 : K.lookup f14 = some ⟨oc14, od14, .func (PySem.W.fnOf "sb_mix" "Board.sb_mix" (defArgs sBMix) (defBody sBMix) (defScope sBMix) .none kV14 dc14 pm14 an14 cd14 ct14), sl14⟩)
    (c14 : PySem.W.codeIn K cd14 "Board.sb_mix" = true)
    (k14 : PySem.W.keepIn K (.ref f14) = true)
    (a15 : PySem.W.findIn K (.ref CB) "bus_values" = some (some (.ref f15)))
    (i15 : PySem.W.isFn K (.ref f15) = true)
    (l15 : K.lookup f15 = some ⟨oc15, od15, .func (PySem.W.fnOf "bus_values" "Board.bus_values" (defArgs sBVals) (defBody sBVals) (defScope sBVals) .none kV15 dc15 pm15 an15 cd15 ct15), sl15⟩)
    (c15 : PySem.W.codeIn K cd15 "Board.bus_values" = true)
    (k15 : PySem.W.keepIn K (.ref f15) = true)
    (pgCB : PySem.W.plainGet K CB Str.empty = true)
    (hdCB : PySem.W.hasDictIn K CB = true)
    (poCB : PySem.W.plainOver K CB = true)
    (saCB : PySem.W.findIn K (.ref CB) "__setattr__" = some (some (.builtin "object.__setattr__")))
    (mkCB : PySem.W.makesIn K CB = true)
    (kcCB : PySem.W.keepIn K (.ref CB) = true)
    (nCB_channels : PySem.W.findIn K (.ref CB) "channels" = some none)
    (nCB_buses : PySem.W.findIn K (.ref CB) "buses" = some none)
    (nCB_seal : PySem.W.findIn K (.ref CB) "seal" = some none)
    (nCB_numbers : PySem.W.findIn K (.ref CB) "numbers" = some none)
    (nCB_gains : PySem.W.findIn K (.ref CB) "gains" = some none)
    (aCCD : PySem.W.nsIn K mainGlobals "Desk" = some (some (.ref CD)))
    (a16 : PySem.W.findIn K (.ref CD) "__init__" = some (some (.ref f16)))
    (i16 : PySem.W.isFn K (.ref f16) = true)
    (l16 : K.lookup f16 = some ⟨oc16, od16, .func (PySem.W.fnOf "__init__" "Desk.__init__" (defArgs sDInit) (defBody sDInit) (defScope sDInit) .none kV16 dc16 pm16 an16 cd16 ct16), sl16⟩)
    (c16 : PySem.W.codeIn K cd16 "Desk.__init__" = true)
    (k16 : PySem.W.keepIn K (.ref f16) = true)
    (a17 : PySem.W.findIn K (.ref CD) "begin" = some (some (.ref f17)))
    (i17 : PySem.W.isFn K (.ref f17) = true)
    (l17 : K.lookup f17 = some ⟨oc17, od17, .func (PySem.W.fnOf "begin" "Desk.begin" (defArgs sBegin) (defBody sBegin) (defScope sBegin) .none kV17 dc17 pm17 an17 cd17 ct17), sl17⟩)
    (c17 : PySem.W.codeIn K cd17 "Desk.begin" = true)
    (k17 : PySem.W.keepIn K (.ref f17) = true)
    (a18 : PySem.W.findIn K (.ref CD) "sd_start" = some (some (.ref f18)))
    (i18 : PySem.W.isFn K (.ref f18) = true)
    (l18 : K.lookup f18 = some ⟨oc18, od18, .func (PySem.W.fnOf "sd_start" "Desk.sd_start" (defArgs sStart) (defBody sStart) (defScope sStart) .none kV18 dc18 pm18 an18 cd18 ct18), sl18⟩)
    (c18 : PySem.W.codeIn K cd18 "Desk.sd_start" = true)
    (k18 : PySem.W.keepIn K (.ref f18) = true)
    (a19 : PySem.W.findIn K (.ref CD) "sd_set" = some (some (.ref f19)))
    (i19 : PySem.W.isFn K (.ref f19) = true)
    (l19 : K.lookup f19 = some ⟨oc19, od19, .func (PySem.W.fnOf "sd_set" "Desk.sd_set" (defArgs sSet) (defBody sSet) (defScope sSet) .none kV19 dc19 pm19 an19 cd19 ct19), sl19⟩)
    (c19 : PySem.W.codeIn K cd19 "Desk.sd_set" = true)
    (k19 : PySem.W.keepIn K (.ref f19) = true)
    (a20 : PySem.W.findIn K (.ref CD) "sd_keep" = some (some (.ref f20)))
    (i20 : PySem.W.isFn K (.ref f20) = true)
    (l20 : K.lookup f20 = some ⟨oc20, od20, .func (PySem.W.fnOf "sd_keep" "Desk.sd_keep" (defArgs sKeep) (defBody sKeep) (defScope sKeep) .none kV20 dc20 pm20 an20 cd20 ct20), sl20⟩)
    (c20 : PySem.W.codeIn K cd20 "Desk.sd_keep" = true)
    (k20 : PySem.W.keepIn K (.ref f20) = true)
    (a21 : PySem.W.findIn K (.ref CD) "sd_go" = some (some (.ref f21)))
    (i21 : PySem.W.isFn K (.ref f21) = true)
    (l21 : K.lookup f21 = some ⟨oc21, od21, .func (PySem.W.fnOf "sd_go" "Desk.sd_go" (defArgs sGo) (defBody sGo) (defScope sGo) .none kV21 dc21 pm21 an21 cd21 ct21), sl21⟩)
    (c21 : PySem.W.codeIn K cd21 "Desk.sd_go" = true)
    (k21 : PySem.W.keepIn K (.ref f21) = true)
    (a22 : PySem.W.findIn K (.ref CD) "sd_seal" = some (some (.ref f22)))
    (i22 : PySem.W.isFn K (.ref f22) = true)
    (l22 : K.lookup f22 = some ⟨oc22, od22, .func (PySem.W.fnOf "sd_seal" "Desk.sd_seal" (defArgs sSeal) (defBody sSeal) (defScope sSeal) .none kV22 dc22 pm22 an22 cd22 ct22), sl22⟩)
    (c22 : PySem.W.codeIn K cd22 "Desk.sd_seal" = true)
    (k22 : PySem.W.keepIn K (.ref f22) = true)
    (a23 : PySem.W.findIn K (.ref CD) "sd_again" = some (some (.ref f23)))
    (i23 : PySem.W.isFn K (.ref f23) = true)
    (l23 : K.lookup f23 = some ⟨oc23, od23, .func (PySem.W.fnOf "sd_again" "Desk.sd_again" (defArgs sAgain) (defBody sAgain) (defScope sAgain) .none kV23 dc23 pm23 an23 cd23 ct23), sl23⟩)
    (c23 : PySem.W.codeIn K cd23 "Desk.sd_again" = true)
    (k23 : PySem.W.keepIn K (.ref f23) = true)
    (a24 : PySem.W.findIn K (.ref CD) "add_order" = some (some (.ref f24)))
    (i24 : PySem.W.isFn K (.ref f24) = true)
    (l24 : K.lookup f24 = some ⟨oc24, od24, .func (PySem.W.fnOf "add_order" "Desk.add_order" (defArgs sAdd) (defBody sAdd) (defScope sAdd) .none kV24 dc24 pm24 an24 cd24 ct24), sl24⟩)
    (c24 : PySem.W.codeIn K cd24 "Desk.add_order" = true)
    (k24 : PySem.W.keepIn K (.ref f24) = true)
    (pgCD : PySem.W.plainGet K CD Str.empty = true)
    (hdCD : PySem.W.hasDictIn K CD = true)
    (poCD : PySem.W.plainOver K CD = true)
    (saCD : PySem.W.findIn K (.ref CD) "__setattr__" = some (some (.builtin "object.__setattr__")))
    (mkCD : PySem.W.makesIn K CD = true)
    (kcCD : PySem.W.keepIn K (.ref CD) = true)
    (nCD_channels : PySem.W.findIn K (.ref CD) "channels" = some none)
    (nCD_buses : PySem.W.findIn K (.ref CD) "buses" = some none)
    (nCD_orders : PySem.W.findIn K (.ref CD) "orders" = some none)
    (nCD_sealed : PySem.W.findIn K (.ref CD) "sealed" = some none)
    (nCD_latest : PySem.W.findIn K (.ref CD) "latest" = some none)
    (nCD_goals : PySem.W.findIn K (.ref CD) "goals" = some none)
    (nCD_goal_times : PySem.W.findIn K (.ref CD) "goal_times" = some none)
    (nCD_scenes : PySem.W.findIn K (.ref CD) "scenes" = some none)
    (a25 : PySem.W.nsIn K mainGlobals "sizes_as_told" = some (some (.ref f25)))
    (l25 : K.lookup f25 = some ⟨oc25, od25, .func (PySem.W.fnOf "sizes_as_told" "sizes_as_told" (defArgs sSizes) (defBody sSizes) (defScope sSizes) .none kV25 dc25 pm25 an25 cd25 ct25), sl25⟩)
    (c25 : PySem.W.codeIn K cd25 "sizes_as_told" = true)
    (k25 : PySem.W.keepIn K (.ref f25) = true)
    (a26 : PySem.W.nsIn K mainGlobals "low_byte_first" = some (some (.ref f26)))
    (l26 : K.lookup f26 = some ⟨oc26, od26, .func (PySem.W.fnOf "low_byte_first" "low_byte_first" (defArgs sLbf) (defBody sLbf) (defScope sLbf) .none kV26 dc26 pm26 an26 cd26 ct26), sl26⟩)
    (c26 : PySem.W.codeIn K cd26 "low_byte_first" = true)
    (k26 : PySem.W.keepIn K (.ref f26) = true)
    (a27 : PySem.W.nsIn K mainGlobals "number_at" = some (some (.ref f27)))
    (l27 : K.lookup f27 = some ⟨oc27, od27, .func (PySem.W.fnOf "number_at" "number_at" (defArgs sNum) (defBody sNum) (defScope sNum) .none kV27 dc27 pm27 an27 cd27 ct27), sl27⟩)
    (c27 : PySem.W.codeIn K cd27 "number_at" = true)
    (k27 : PySem.W.keepIn K (.ref f27) = true)
    (a28 : PySem.W.nsIn K mainGlobals "check_of" = some (some (.ref f28)))
    (l28 : K.lookup f28 = some ⟨oc28, od28, .func (PySem.W.fnOf "check_of" "check_of" (defArgs sChk) (defBody sChk) (defScope sChk) .none kV28 dc28 pm28 an28 cd28 ct28), sl28⟩)
    (c28 : PySem.W.codeIn K cd28 "check_of" = true)
    (k28 : PySem.W.keepIn K (.ref f28) = true)
    (a29 : PySem.W.nsIn K mainGlobals "with_check" = some (some (.ref f29)))
    (l29 : K.lookup f29 = some ⟨oc29, od29, .func (PySem.W.fnOf "with_check" "with_check" (defArgs sWith) (defBody sWith) (defScope sWith) .none kV29 dc29 pm29 an29 cd29 ct29), sl29⟩)
    (c29 : PySem.W.codeIn K cd29 "with_check" = true)
    (k29 : PySem.W.keepIn K (.ref f29) = true)
    (a30 : PySem.W.nsIn K mainGlobals "order_message" = some (some (.ref f30)))
    (l30 : K.lookup f30 = some ⟨oc30, od30, .func (PySem.W.fnOf "order_message" "order_message" (defArgs sOMsg) (defBody sOMsg) (defScope sOMsg) .none kV30 dc30 pm30 an30 cd30 ct30), sl30⟩)
    (c30 : PySem.W.codeIn K cd30 "order_message" = true)
    (k30 : PySem.W.keepIn K (.ref f30) = true)
    (a31 : PySem.W.nsIn K mainGlobals "seal_message" = some (some (.ref f31)))
    (l31 : K.lookup f31 = some ⟨oc31, od31, .func (PySem.W.fnOf "seal_message" "seal_message" (defArgs sSMsg) (defBody sSMsg) (defScope sSMsg) .none kV31 dc31 pm31 an31 cd31 ct31), sl31⟩)
    (c31 : PySem.W.codeIn K cd31 "seal_message" = true)
    (k31 : PySem.W.keepIn K (.ref f31) = true)
    (a32 : PySem.W.nsIn K mainGlobals "order_as_told" = some (some (.ref f32)))
    (l32 : K.lookup f32 = some ⟨oc32, od32, .func (PySem.W.fnOf "order_as_told" "order_as_told" (defArgs sOTold) (defBody sOTold) (defScope sOTold) .none kV32 dc32 pm32 an32 cd32 ct32), sl32⟩)
    (c32 : PySem.W.codeIn K cd32 "order_as_told" = true)
    (k32 : PySem.W.keepIn K (.ref f32) = true)
    (a33 : PySem.W.nsIn K mainGlobals "seal_as_told" = some (some (.ref f33)))
    (l33 : K.lookup f33 = some ⟨oc33, od33, .func (PySem.W.fnOf "seal_as_told" "seal_as_told" (defArgs sSTold) (defBody sSTold) (defScope sSTold) .none kV33 dc33 pm33 an33 cd33 ct33), sl33⟩)
    (c33 : PySem.W.codeIn K cd33 "seal_as_told" = true)
    (k33 : PySem.W.keepIn K (.ref f33) = true)
    (a34 : PySem.W.nsIn K mainGlobals "read_message" = some (some (.ref f34)))
    (l34 : K.lookup f34 = some ⟨oc34, od34, .func (PySem.W.fnOf "read_message" "read_message" (defArgs sRead) (defBody sRead) (defScope sRead) .none kV34 dc34 pm34 an34 cd34 ct34), sl34⟩)
    (c34 : PySem.W.codeIn K cd34 "read_message" = true)
    (k34 : PySem.W.keepIn K (.ref f34) = true)
    (a35 : PySem.W.nsIn K mainGlobals "gain_by" = some (some (.ref f35)))
    (l35 : K.lookup f35 = some ⟨oc35, od35, .func (PySem.W.fnOf "gain_by" "gain_by" (defArgs sGBy) (defBody sGBy) (defScope sGBy) .none kV35 dc35 pm35 an35 cd35 ct35), sl35⟩)
    (c35 : PySem.W.codeIn K cd35 "gain_by" = true)
    (k35 : PySem.W.keepIn K (.ref f35) = true)
    (a36 : PySem.W.nsIn K mainGlobals "gain_along" = some (some (.ref f36)))
    (l36 : K.lookup f36 = some ⟨oc36, od36, .func (PySem.W.fnOf "gain_along" "gain_along" (defArgs sGAl) (defBody sGAl) (defScope sGAl) .none kV36 dc36 pm36 an36 cd36 ct36), sl36⟩)
    (c36 : PySem.W.codeIn K cd36 "gain_along" = true)
    (k36 : PySem.W.keepIn K (.ref f36) = true)
    (a37 : PySem.W.nsIn K mainGlobals "time_then_number" = some (some (.ref f37)))
    (l37 : K.lookup f37 = some ⟨oc37, od37, .func (PySem.W.fnOf "time_then_number" "time_then_number" (defArgs sTTN) (defBody sTTN) (defScope sTTN) .none kV37 dc37 pm37 an37 cd37 ct37), sl37⟩)
    (c37 : PySem.W.codeIn K cd37 "time_then_number" = true)
    (k37 : PySem.W.keepIn K (.ref f37) = true)
    (a38 : PySem.W.nsIn K mainGlobals "steps_of" = some (some (.ref f38)))
    (l38 : K.lookup f38 = some ⟨oc38, od38, .func (PySem.W.fnOf "steps_of" "steps_of" (defArgs sStO) (defBody sStO) (defScope sStO) .none kV38 dc38 pm38 an38 cd38 ct38), sl38⟩)
    (c38 : PySem.W.codeIn K cd38 "steps_of" = true)
    (k38 : PySem.W.keepIn K (.ref f38) = true)
    (a39 : PySem.W.nsIn K mainGlobals "desk_answer" = some (some (.ref f39)))
    (l39 : K.lookup f39 = some ⟨oc39, od39, .func (PySem.W.fnOf "desk_answer" "desk_answer" (defArgs sDAns) (defBody sDAns) (defScope sDAns) .none kV39 dc39 pm39 an39 cd39 ct39), sl39⟩)
    (c39 : PySem.W.codeIn K cd39 "desk_answer" = true)
    (k39 : PySem.W.keepIn K (.ref f39) = true)
    (a40 : PySem.W.nsIn K mainGlobals "board_answer" = some (some (.ref f40)))
    (l40 : K.lookup f40 = some ⟨oc40, od40, .func (PySem.W.fnOf "board_answer" "board_answer" (defArgs sBAns) (defBody sBAns) (defScope sBAns) .none kV40 dc40 pm40 an40 cd40 ct40), sl40⟩)
    (c40 : PySem.W.codeIn K cd40 "board_answer" = true)
    (k40 : PySem.W.keepIn K (.ref f40) = true)
    (a41 : PySem.W.nsIn K mainGlobals "answers" = some (some (.ref f41)))
    (l41 : K.lookup f41 = some ⟨oc41, od41, .func (PySem.W.fnOf "answers" "answers" (defArgs sAns) (defBody sAns) (defScope sAns) .none kV41 dc41 pm41 an41 cd41 ct41), sl41⟩)
    (c41 : PySem.W.codeIn K cd41 "answers" = true)
    (k41 : PySem.W.keepIn K (.ref f41) = true)
    (g_CHANNELS_MOST : PySem.W.nsIn K mainGlobals "CHANNELS_MOST" = some (some (.int 32 t_CHANNELS_MOST)))
    (g_BUSES_MOST : PySem.W.nsIn K mainGlobals "BUSES_MOST" = some (some (.int 8 t_BUSES_MOST)))
    (g_ORDERS_MOST : PySem.W.nsIn K mainGlobals "ORDERS_MOST" = some (some (.int 4096 t_ORDERS_MOST)))
    (g_UNIT : PySem.W.nsIn K mainGlobals "UNIT" = some (some (.int 65536 t_UNIT)))
    (g_FADE_MOST : PySem.W.nsIn K mainGlobals "FADE_MOST" = some (some (.int 480000 t_FADE_MOST)))
    (g_TIME_END : PySem.W.nsIn K mainGlobals "TIME_END" = some (some (.int 281474976710656 t_TIME_END)))
    (g_NOT_THERE : PySem.W.nsIn K mainGlobals "NOT_THERE" = some (some (.int (-2) t_NOT_THERE)))
    (g_NONE_LACKS : PySem.W.nsIn K mainGlobals "NONE_LACKS" = some (some (.int (-11) t_NONE_LACKS)))
    (g_TOO_EARLY : PySem.W.nsIn K mainGlobals "TOO_EARLY" = some (some (.int (-13) t_TOO_EARLY)))
    (g_NOT_AS_TOLD : PySem.W.nsIn K mainGlobals "NOT_AS_TOLD" = some (some (.int (-22) t_NOT_AS_TOLD)))
    (g_NO_ROOM : PySem.W.nsIn K mainGlobals "NO_ROOM" = some (some (.int (-28) t_NO_ROOM)))
    (g_NOT_RIGHT : PySem.W.nsIn K mainGlobals "NOT_RIGHT" = some (some (.int (-71) t_NOT_RIGHT)))
    (g_ORDER_KIND : PySem.W.nsIn K mainGlobals "ORDER_KIND" = some (some (.int 1 t_ORDER_KIND)))
    (g_SEAL_KIND : PySem.W.nsIn K mainGlobals "SEAL_KIND" = some (some (.int 2 t_SEAL_KIND)))
    (g_ALL_ONES : PySem.W.nsIn K mainGlobals "ALL_ONES" = some (some (.int 4294967295 t_ALL_ONES)))
    (g_POLYNOMIAL : PySem.W.nsIn K mainGlobals "POLYNOMIAL" = some (some (.int 2197175160 t_POLYNOMIAL)))
    (g_BLOCK : PySem.W.nsIn K mainGlobals "BLOCK" = some (some (.int 48 t_BLOCK)))
    (g_OUT_SIZE : PySem.W.nsIn K mainGlobals "OUT_SIZE" = some (some (.int 384 t_OUT_SIZE)))
    (g_LOWEST : PySem.W.nsIn K mainGlobals "LOWEST" = some (some (.int (-8388608) t_LOWEST)))
    (g_HIGHEST : PySem.W.nsIn K mainGlobals "HIGHEST" = some (some (.int 8388607 t_HIGHEST)))
    (g_NOT_WHOLE : PySem.W.nsIn K mainGlobals "NOT_WHOLE" = some (some (.int 1000 t_NOT_WHOLE)))
    (g_SCENES : PySem.W.nsIn K mainGlobals "SCENES" = some (some (.int 16 t_SCENES)))
    (g_SD_START : PySem.W.nsIn K mainGlobals "SD_START" = some (some (.int 0 t_SD_START)))
    (g_SD_SET : PySem.W.nsIn K mainGlobals "SD_SET" = some (some (.int 1 t_SD_SET)))
    (g_SD_KEEP : PySem.W.nsIn K mainGlobals "SD_KEEP" = some (some (.int 2 t_SD_KEEP)))
    (g_SD_GO : PySem.W.nsIn K mainGlobals "SD_GO" = some (some (.int 3 t_SD_GO)))
    (g_SD_SEAL : PySem.W.nsIn K mainGlobals "SD_SEAL" = some (some (.int 4 t_SD_SEAL)))
    (g_SB_START : PySem.W.nsIn K mainGlobals "SB_START" = some (some (.int 6 t_SB_START)))
    (g_SB_HEARD : PySem.W.nsIn K mainGlobals "SB_HEARD" = some (some (.int 7 t_SB_HEARD)))
    (g_SB_LACKS : PySem.W.nsIn K mainGlobals "SB_LACKS" = some (some (.int 8 t_SB_LACKS)))
    (g_SB_GAIN : PySem.W.nsIn K mainGlobals "SB_GAIN" = some (some (.int 9 t_SB_GAIN)))
    (g_SB_MIX : PySem.W.nsIn K mainGlobals "SB_MIX" = some (some (.int 10 t_SB_MIX)))
    (z_range : PySem.W.nsIn K mainGlobals "range" = some none)
    (z_len : PySem.W.nsIn K mainGlobals "len" = some none)
    (z_max : PySem.W.nsIn K mainGlobals "max" = some none)
    (z_list : PySem.W.nsIn K mainGlobals "list" = some none)
    (z_min : PySem.W.nsIn K mainGlobals "min" = some none)
    (z_sum : PySem.W.nsIn K mainGlobals "sum" = some none)
    (z_sorted : PySem.W.nsIn K mainGlobals "sorted" = some none)
    (z_reversed : PySem.W.nsIn K mainGlobals "reversed" = some none)
    (z_isinstance : PySem.W.nsIn K mainGlobals "isinstance" = some none)
    (g_NUMBERS_BEHIND : PySem.W.nsIn K mainGlobals "NUMBERS_BEHIND" = some (some (.ref ta_NUMBERS_BEHIND)))
    (o_NUMBERS_BEHIND : K.lookup ta_NUMBERS_BEHIND = some ⟨.type "tuple", td_NUMBERS_BEHIND, .seq #[.int 2 tt_NUMBERS_BEHIND_0, .int 5 tt_NUMBERS_BEHIND_1, .int 1 tt_NUMBERS_BEHIND_2, .int 3 tt_NUMBERS_BEHIND_3, .int 1 tt_NUMBERS_BEHIND_4, .int 1 tt_NUMBERS_BEHIND_5, .int 3 tt_NUMBERS_BEHIND_6, .int 1 tt_NUMBERS_BEHIND_7, .int 1 tt_NUMBERS_BEHIND_8, .int 4 tt_NUMBERS_BEHIND_9, .int 2 tt_NUMBERS_BEHIND_10] tn_NUMBERS_BEHIND, ts_NUMBERS_BEHIND⟩)
    (xoa : PySem.W.findIn K (.ref CO) "__class__" = some (some (.builtin "object.__class__")))
    (xsa : PySem.W.findIn K (.ref CS) "__class__" = some (some (.builtin "object.__class__")))
    (xhn : PySem.W.specialIn K (.builtin "object.__class__") "__get__" = some (some (.builtin "getset_descriptor.__get__")))
    (xtk : PySem.W.takesIn K (.builtin "object.__class__") = some true)
    (xom : PySem.W.mroIn K CO (.type "object") = some true)
    (xsm : PySem.W.mroIn K CS (.type "object") = some true)
    (xko : PySem.W.kitOne K (.ref CO) (.ref CS) = some false)
    (xks : PySem.W.kitOne K (.ref CS) (.ref CS) = some true) :
    ∃ fd : FuncData, (∀ (s : Shared) (us : List Value), us.length = (["calls"] : List Str).length → BindsTo s fd ⟨us, []⟩ ((["calls"] : List Str).zip us)) ∧ ∀ base : Heap, K.In base → base.Ns mainGlobals mg → FnOk P w K mg base CX0 8 fa fd ["calls"] (spAns K) := by
  have e := hfa.symm.trans (PySem.W.mg_of X G a41)
  cases e
  have F1 := fun_mk (st := sOInit) l1 c1 k1
  have b1 := F1.binds (ps := ["self", "number", "time", "channel", "bus", "gain", "fade"]) fun _ _ _ _ _ _ us hl => match us, hl with | [_, _, _, _, _, _, _], _ => rfl
  have F2 := fun_mk (st := sSInit) l2 c2 k2
  have b2 := F2.binds (ps := ["self", "number", "time"]) fun _ _ _ _ _ _ us hl => match us, hl with | [_, _, _], _ => rfl
  have F3 := fun_mk (st := sTInit) l3 c3 k3
  have b3 := F3.binds (ps := ["self", "order", "begun"]) fun _ _ _ _ _ _ us hl => match us, hl with | [_, _, _], _ => rfl
  have F4 := fun_mk (st := sBInit) l4 c4 k4
  have b4 := F4.binds (ps := ["self"]) fun _ _ _ _ _ _ us hl => match us, hl with | [_], _ => rfl
  have F5 := fun_mk (st := sBBegin) l5 c5 k5
  have b5 := F5.binds (ps := ["self", "channels", "buses"]) fun _ _ _ _ _ _ us hl => match us, hl with | [_, _, _], _ => rfl
  have F6 := fun_mk (st := sBStart) l6 c6 k6
  have b6 := F6.binds (ps := ["self", "channels", "buses"]) fun _ _ _ _ _ _ us hl => match us, hl with | [_, _, _], _ => rfl
  have F7 := fun_mk (st := sBHeard) l7 c7 k7
  have b7 := F7.binds (ps := ["self", "octets"]) fun _ _ _ _ _ _ us hl => match us, hl with | [_, _], _ => rfl
  have F8 := fun_mk (st := sBHSeal) l8 c8 k8
  have b8 := F8.binds (ps := ["self", "seal"]) fun _ _ _ _ _ _ us hl => match us, hl with | [_, _], _ => rfl
  have F9 := fun_mk (st := sBHOrd) l9 c9 k9
  have b9 := F9.binds (ps := ["self", "order"]) fun _ _ _ _ _ _ us hl => match us, hl with | [_, _], _ => rfl
  have F10 := fun_mk (st := sBLacks) l10 c10 k10
  have b10 := F10.binds (ps := ["self"]) fun _ _ _ _ _ _ us hl => match us, hl with | [_], _ => rfl
  have F11 := fun_mk (st := sBWhole) l11 c11 k11
  have b11 := F11.binds (ps := ["self", "time"]) fun _ _ _ _ _ _ us hl => match us, hl with | [_, _], _ => rfl
  have F12 := fun_mk (st := sBGain) l12 c12 k12
  have b12 := F12.binds (ps := ["self", "channel", "bus", "time"]) fun _ _ _ _ _ _ us hl => match us, hl with | [_, _, _, _], _ => rfl
  have F13 := fun_mk (st := sBGAt) l13 c13 k13
  have b13 := F13.binds (ps := ["self", "channel", "bus", "time"]) fun _ _ _ _ _ _ us hl => match us, hl with | [_, _, _, _], _ => rfl
  have F14 := fun_mk (st := sBMix) l14 c14 k14
  have b14 := F14.binds (ps := ["self", "samples", "time"]) fun _ _ _ _ _ _ us hl => match us, hl with | [_, _, _], _ => rfl
  have F15 := fun_mk (st := sBVals) l15 c15 k15
  have b15 := F15.binds (ps := ["self", "bus", "samples", "time"]) fun _ _ _ _ _ _ us hl => match us, hl with | [_, _, _, _], _ => rfl
  have F16 := fun_mk (st := sDInit) l16 c16 k16
  have b16 := F16.binds (ps := ["self"]) fun _ _ _ _ _ _ us hl => match us, hl with | [_], _ => rfl
  have F17 := fun_mk (st := sBegin) l17 c17 k17
  have b17 := F17.binds (ps := ["self", "channels", "buses"]) fun _ _ _ _ _ _ us hl => match us, hl with | [_, _, _], _ => rfl
  have F18 := fun_mk (st := sStart) l18 c18 k18
  have b18 := F18.binds (ps := ["self", "channels", "buses"]) fun _ _ _ _ _ _ us hl => match us, hl with | [_, _, _], _ => rfl
  have F19 := fun_mk (st := sSet) l19 c19 k19
  have b19 := F19.binds (ps := ["self", "channel", "bus", "gain", "fade", "time"]) fun _ _ _ _ _ _ us hl => match us, hl with | [_, _, _, _, _, _], _ => rfl
  have F20 := fun_mk (st := sKeep) l20 c20 k20
  have b20 := F20.binds (ps := ["self", "scene"]) fun _ _ _ _ _ _ us hl => match us, hl with | [_, _], _ => rfl
  have F21 := fun_mk (st := sGo) l21 c21 k21
  have b21 := F21.binds (ps := ["self", "scene", "fade", "time"]) fun _ _ _ _ _ _ us hl => match us, hl with | [_, _, _, _], _ => rfl
  have F22 := fun_mk (st := sSeal) l22 c22 k22
  have b22 := F22.binds (ps := ["self", "time"]) fun _ _ _ _ _ _ us hl => match us, hl with | [_, _], _ => rfl
  have F23 := fun_mk (st := sAgain) l23 c23 k23
  have b23 := F23.binds (ps := ["self", "number"]) fun _ _ _ _ _ _ us hl => match us, hl with | [_, _], _ => rfl
  have F24 := fun_mk (st := sAdd) l24 c24 k24
  have b24 := F24.binds (ps := ["self", "order"]) fun _ _ _ _ _ _ us hl => match us, hl with | [_, _], _ => rfl
  have F25 := fun_mk (st := sSizes) l25 c25 k25
  have b25 := F25.binds (ps := ["channels", "buses"]) fun _ _ _ _ _ _ us hl => match us, hl with | [_, _], _ => rfl
  have F26 := fun_mk (st := sLbf) l26 c26 k26
  have b26 := F26.binds (ps := ["number", "size"]) fun _ _ _ _ _ _ us hl => match us, hl with | [_, _], _ => rfl
  have F27 := fun_mk (st := sNum) l27 c27 k27
  have b27 := F27.binds (ps := ["octets", "start", "size"]) fun _ _ _ _ _ _ us hl => match us, hl with | [_, _, _], _ => rfl
  have F28 := fun_mk (st := sChk) l28 c28 k28
  have b28 := F28.binds (ps := ["octets"]) fun _ _ _ _ _ _ us hl => match us, hl with | [_], _ => rfl
  have F29 := fun_mk (st := sWith) l29 c29 k29
  have b29 := F29.binds (ps := ["octets"]) fun _ _ _ _ _ _ us hl => match us, hl with | [_], _ => rfl
  have F30 := fun_mk (st := sOMsg) l30 c30 k30
  have b30 := F30.binds (ps := ["order"]) fun _ _ _ _ _ _ us hl => match us, hl with | [_], _ => rfl
  have F31 := fun_mk (st := sSMsg) l31 c31 k31
  have b31 := F31.binds (ps := ["seal"]) fun _ _ _ _ _ _ us hl => match us, hl with | [_], _ => rfl
  have F32 := fun_mk (st := sOTold) l32 c32 k32
  have b32 := F32.binds (ps := ["order"]) fun _ _ _ _ _ _ us hl => match us, hl with | [_], _ => rfl
  have F33 := fun_mk (st := sSTold) l33 c33 k33
  have b33 := F33.binds (ps := ["seal"]) fun _ _ _ _ _ _ us hl => match us, hl with | [_], _ => rfl
  have F34 := fun_mk (st := sRead) l34 c34 k34
  have b34 := F34.binds (ps := ["octets"]) fun _ _ _ _ _ _ us hl => match us, hl with | [_], _ => rfl
  have F35 := fun_mk (st := sGBy) l35 c35 k35
  have b35 := F35.binds (ps := ["step", "time"]) fun _ _ _ _ _ _ us hl => match us, hl with | [_, _], _ => rfl
  have F36 := fun_mk (st := sGAl) l36 c36 k36
  have b36 := F36.binds (ps := ["steps", "time"]) fun _ _ _ _ _ _ us hl => match us, hl with | [_, _], _ => rfl
  have F37 := fun_mk (st := sTTN) l37 c37 k37
  have b37 := F37.binds (ps := ["told"]) fun _ _ _ _ _ _ us hl => match us, hl with | [_], _ => rfl
  have F38 := fun_mk (st := sStO) l38 c38 k38
  have b38 := F38.binds (ps := ["orders"]) fun _ _ _ _ _ _ us hl => match us, hl with | [_], _ => rfl
  have F39 := fun_mk (st := sDAns) l39 c39 k39
  have b39 := F39.binds (ps := ["desk", "call", "numbers"]) fun _ _ _ _ _ _ us hl => match us, hl with | [_, _, _], _ => rfl
  have F40 := fun_mk (st := sBAns) l40 c40 k40
  have b40 := F40.binds (ps := ["board", "call", "numbers", "row"]) fun _ _ _ _ _ _ us hl => match us, hl with | [_, _, _, _], _ => rfl
  have F41 := fun_mk (st := sAns) l41 c41 k41
  have b41 := F41.binds (ps := ["calls"]) fun _ _ _ _ _ _ us hl => match us, hl with | [_], _ => rfl
  have TM : TxM K mg CO := ⟨⟨pgCO, hdCO, poCO, saCO⟩, nCO_number, nCO_time, nCO_channel, nCO_bus, nCO_gain, nCO_fade, PySem.W.mg_none_of X G z_range, ⟨_, PySem.W.mg_of X G g_ALL_ONES⟩, ⟨_, PySem.W.mg_of X G g_POLYNOMIAL⟩, ⟨_, PySem.W.mg_of X G g_ORDER_KIND⟩, ⟨_, PySem.W.mg_of X G g_SEAL_KIND⟩⟩
  have TS : TxS K CS := ⟨⟨pgCS, hdCS, poCS, saCS⟩, nCS_number, nCS_time⟩
  have TT : TxT K CT := ⟨⟨pgCT, hdCT, poCT, saCT⟩, nCT_order, nCT_begun⟩
  have TD : TxD K mg CD := ⟨⟨pgCD, hdCD, poCD, saCD⟩, nCD_channels, nCD_buses, nCD_orders, nCD_sealed, nCD_latest, nCD_goals, nCD_goal_times, nCD_scenes, PySem.W.mg_none_of X G z_len, PySem.W.mg_none_of X G z_max, PySem.W.mg_none_of X G z_list, ⟨_, PySem.W.mg_of X G g_CHANNELS_MOST⟩, ⟨_, PySem.W.mg_of X G g_BUSES_MOST⟩, ⟨_, PySem.W.mg_of X G g_ORDERS_MOST⟩, ⟨_, PySem.W.mg_of X G g_UNIT⟩, ⟨_, PySem.W.mg_of X G g_FADE_MOST⟩, ⟨_, PySem.W.mg_of X G g_TIME_END⟩, ⟨_, PySem.W.mg_of X G g_SCENES⟩, ⟨_, PySem.W.mg_of X G g_NOT_THERE⟩, ⟨_, PySem.W.mg_of X G g_TOO_EARLY⟩, ⟨_, PySem.W.mg_of X G g_NOT_AS_TOLD⟩, ⟨_, PySem.W.mg_of X G g_NO_ROOM⟩⟩
  have TB : TxB mg := ⟨⟨_, PySem.W.mg_of X G g_CHANNELS_MOST⟩, ⟨_, PySem.W.mg_of X G g_BUSES_MOST⟩, ⟨_, PySem.W.mg_of X G g_ORDERS_MOST⟩, ⟨_, PySem.W.mg_of X G g_UNIT⟩, ⟨_, PySem.W.mg_of X G g_FADE_MOST⟩, ⟨_, PySem.W.mg_of X G g_TIME_END⟩⟩
  have TBd : TxBd K mg ⟨CB, CO, CS, CT⟩ := ⟨⟨pgCB, hdCB, poCB, saCB⟩, nCB_channels, nCB_buses, nCB_seal, nCB_numbers, nCB_gains, PySem.W.mg_none_of X G z_len, PySem.W.mg_none_of X G z_max, PySem.W.mg_none_of X G z_min, PySem.W.mg_none_of X G z_isinstance, ⟨_, PySem.W.mg_of X G g_NOT_AS_TOLD⟩, ⟨_, PySem.W.mg_of X G g_NONE_LACKS⟩, ⟨_, PySem.W.mg_of X G g_NOT_RIGHT⟩, ⟨_, PySem.W.mg_of X G g_TIME_END⟩, ⟨_, PySem.W.mg_of X G g_UNIT⟩, ⟨_, PySem.W.mg_of X G g_BLOCK⟩, ⟨_, PySem.W.mg_of X G g_OUT_SIZE⟩, ⟨_, PySem.W.mg_of X G g_LOWEST⟩, ⟨_, PySem.W.mg_of X G g_HIGHEST⟩, ⟨_, PySem.W.mg_of X G g_NOT_WHOLE⟩⟩
  have TI : TxI K CO CS := ⟨xoa, xsa, xhn, xtk, xom, xsm, xko, xks⟩
  have TN : TxN mg := ⟨⟨_, PySem.W.mg_of X G g_SD_START⟩, ⟨_, PySem.W.mg_of X G g_SD_SET⟩, ⟨_, PySem.W.mg_of X G g_SD_KEEP⟩, ⟨_, PySem.W.mg_of X G g_SD_GO⟩, ⟨_, PySem.W.mg_of X G g_SD_SEAL⟩, ⟨_, PySem.W.mg_of X G g_SB_START⟩, ⟨_, PySem.W.mg_of X G g_SB_HEARD⟩, ⟨_, PySem.W.mg_of X G g_SB_LACKS⟩, ⟨_, PySem.W.mg_of X G g_SB_GAIN⟩, ⟨_, PySem.W.mg_of X G g_SB_MIX⟩⟩
  have TA : TxA K mg ta_NUMBERS_BEHIND := ⟨PySem.W.mg_of X G g_NUMBERS_BEHIND, fun H => .inr ⟨_, _, _, o_NUMBERS_BEHIND, rfl, rfl, (by show 11 ≤ sizeLine; decide), .cons ⟨_, rfl⟩ (.cons ⟨_, rfl⟩ (.cons ⟨_, rfl⟩ (.cons ⟨_, rfl⟩ (.cons ⟨_, rfl⟩ (.cons ⟨_, rfl⟩ (.cons ⟨_, rfl⟩ (.cons ⟨_, rfl⟩ (.cons ⟨_, rfl⟩ (.cons ⟨_, rfl⟩ (.cons ⟨_, rfl⟩ .nil))))))))))⟩, PySem.W.mg_none_of X G z_len⟩
  have ok_main : ∀ {P : Program} {w : World} {base : Heap}, FnOk P w K mg base CX0 8 fa (PySem.W.fnOf "answers" "answers" (defArgs sAns) (defBody sAns) (defScope sAns) .none kV41 dc41 pm41 an41 cd41 ct41) ["calls"] (spAns K) := by
    intro P w base
    have GOI : FnOk P w K mg base CX0 1 _ _ _ (spOInit CO) := ok_oinit F1 TM
    have GSI : FnOk P w K mg base CX0 1 _ _ _ (spSInit CS) := ok_sinit F2 TS
    have GTI : FnOk P w K mg base CX0 1 _ _ _ (spTInit CT) := ok_tinit F3 TT
    have GZ : FnOk P w K mg base CX0 1 _ _ _ (spSizes) := ok_sizes F25 TB.chMost TB.buMost
    have GL : FnOk P w K mg base CX0 1 _ _ _ (spLbf) := ok_lbf F26 TM
    have GNu : FnOk P w K mg base CX0 1 _ _ _ (spNum K) := ok_num (CO := CO) F27 TM (PySem.W.mg_none_of X G z_sum)
    have GW : FnOk P w K mg base CX0 2 _ _ _ (spWith) := ok_with F29 TM F26 b26 (PySem.W.mg_of X G a26) F28 b28 (PySem.W.mg_of X G a28)
    have GOM : FnOk P w K mg base CX0 3 _ _ _ (spOMsg CO) := ok_omsg F30 TM GL k26 b26 (PySem.W.mg_of X G a26) GW k29 b29 (PySem.W.mg_of X G a29)
    have GSM : FnOk P w K mg base CX0 3 _ _ _ (spSMsg CS) := ok_smsg F31 TM TS GL k26 b26 (PySem.W.mg_of X G a26) GW k29 b29 (PySem.W.mg_of X G a29)
    have GOT : FnOk P w K mg base CX0 1 _ _ _ (spOTold CO) := ok_otold F32 TM TB
    have GST : FnOk P w K mg base CX0 1 _ _ _ (spSTold CS) := ok_stold F33 TS TB
    have GR : FnOk P w K mg base CX0 4 _ _ _ (spRead K CO CS) := ok_read F34 TM GNu k27 b27 (PySem.W.mg_of X G a27) ⟨mkCO, a1, i1, kcCO⟩ (PySem.W.mg_of X G aCCO) GOI b1 ⟨mkCS, a2, i2, kcCS⟩ (PySem.W.mg_of X G aCCS) GSI b2 GOT k32 b32 (PySem.W.mg_of X G a32) GST k33 b33 (PySem.W.mg_of X G a33) GOM k30 b30 (PySem.W.mg_of X G a30) GSM k31 b31 (PySem.W.mg_of X G a31)
    have GBy : FnOk P w K mg base CX0 1 _ _ _ (spGBy CT CO) := ok_gby F35 TT TM
    have GAl : FnOk P w K mg base CX0 2 _ _ _ (spGAl CT CO) := ok_gal F36 TT TM (PySem.W.mg_none_of X G z_reversed) GBy k35 b35 (PySem.W.mg_of X G a35)
    have GTN : FnOk P w K mg base CX0 1 _ _ _ (spTTN K) := ok_ttn F37
    have GSO : FnOk P w K mg base CX0 4 _ _ _ (spStO CT CO) := ok_sto F38 TT TM (PySem.W.mg_none_of X G z_sorted) GTN b37 (PySem.W.mg_of X G a37) ⟨mkCT, a3, i3, kcCT⟩ (PySem.W.mg_of X G aCCT) GTI b3 GAl k36 b36 (PySem.W.mg_of X G a36)
    have GBB : FnOk P w K mg base CX0 3 _ _ _ (spBBegin ⟨CB, CO, CS, CT⟩) := ok_bbegin F5 TBd ⟨mkCS, a2, i2, kcCS⟩ (PySem.W.mg_of X G aCCS) GSI b2
    have GBI : FnOk P w K mg base CX0 4 _ _ _ (spBInit ⟨CB, CO, CS, CT⟩) := ok_binit F4 TBd GBB b5 ⟨a5, i5, k5⟩
    have GBS : FnOk P w K mg base CX0 4 _ _ _ (spBStart ⟨CB, CO, CS, CT⟩) := ok_bstart F6 TBd GBB b5 ⟨a5, i5, k5⟩ GZ k25 b25 (PySem.W.mg_of X G a25)
    have GLk : FnOk P w K mg base CX0 1 _ _ _ (spLacks ⟨CB, CO, CS, CT⟩) := ok_lacks F10 TBd TS (PySem.W.mg_none_of X G z_range)
    have GWh : FnOk P w K mg base CX0 2 _ _ _ (spWhole ⟨CB, CO, CS, CT⟩) := ok_whole F11 TBd TS GLk b10 ⟨a10, i10, k10⟩
    have GAt : FnOk P w K mg base CX0 3 _ _ _ (spGAt ⟨CB, CO, CS, CT⟩) := ok_gat F13 TBd GAl k36 b36 (PySem.W.mg_of X G a36)
    have GGn : FnOk P w K mg base CX0 4 _ _ _ (spGain ⟨CB, CO, CS, CT⟩) := ok_gain F12 TBd GAt b13 ⟨a13, i13, k13⟩
    have GHS : FnOk P w K mg base CX0 2 _ _ _ (spHSeal ⟨CB, CO, CS, CT⟩) := ok_hseal F8 TBd TS GTN k37 b37 (PySem.W.mg_of X G a37)
    have GHO : FnOk P w K mg base CX0 5 _ _ _ (spHOrd ⟨CB, CO, CS, CT⟩) := ok_hord F9 TBd TM TT GSO k38 b38 (PySem.W.mg_of X G a38)
    have GHd : FnOk P w K mg base CX0 6 _ _ _ (spHeard ⟨CB, CO, CS, CT⟩) := ok_heard F7 TBd TM TS TI (PySem.W.mg_of X G aCCS) GR k34 b34 (PySem.W.mg_of X G a34) GHS b8 ⟨a8, i8, k8⟩ GHO b9 ⟨a9, i9, k9⟩
    have GVl : FnOk P w K mg base CX0 4 _ _ _ (spVals ⟨CB, CO, CS, CT⟩) := ok_vals F15 TBd (PySem.W.mg_none_of X G z_range) GAt b13 ⟨a13, i13, k13⟩
    have GMx : FnOk P w K mg base CX0 5 _ _ _ (spMix ⟨CB, CO, CS, CT⟩) := ok_mix F14 TBd (PySem.W.mg_none_of X G z_range) GVl b15 ⟨a15, i15, k15⟩ GWh b11 ⟨a11, i11, k11⟩
    have GB : FnOk P w K mg base CX0 1 _ _ _ (spBegin CD CO) := ok_begin F17 TD
    have GDI : FnOk P w K mg base CX0 2 _ _ _ (spDInit CD CO) := ok_dinit F16 TD GB b17 ⟨a17, i17, k17⟩
    have GSt : FnOk P w K mg base CX0 2 _ _ _ (spStart CD CO) := ok_start F18 TD GB b17 ⟨a17, i17, k17⟩ GZ k25 b25 (PySem.W.mg_of X G a25)
    have GAd : FnOk P w K mg base CX0 1 _ _ _ (spAdd CD CO) := ok_add F24 TD TM
    have GAg : FnOk P w K mg base CX0 4 _ _ _ (spAgain CD CO) := ok_again F23 TD GOM k30 b30 (PySem.W.mg_of X G a30)
    have GSl : FnOk P w K mg base CX0 4 _ _ _ (spSeal CD CO) := ok_seal F22 TD ⟨mkCS, a2, i2, kcCS⟩ (PySem.W.mg_of X G aCCS) GSI b2 GSM k31 b31 (PySem.W.mg_of X G a31)
    have GKp : FnOk P w K mg base CX0 1 _ _ _ (spKeep CD CO) := ok_keep F20 TD
    have GSe : FnOk P w K mg base CX0 5 _ _ _ (spSet CD CO) := ok_set F19 TD ⟨mkCO, a1, i1, kcCO⟩ (PySem.W.mg_of X G aCCO) GOI b1 GAd b24 ⟨a24, i24, k24⟩ GAg b23 ⟨a23, i23, k23⟩
    have GGo : FnOk P w K mg base CX0 3 _ _ _ (spGo CD CO) := ok_go F21 TD TM ⟨mkCO, a1, i1, kcCO⟩ (PySem.W.mg_of X G aCCO) GOI b1 GAd b24 ⟨a24, i24, k24⟩
    have GDA : FnOk P w K mg base CX0 6 _ _ _ (spDAns CD CO) := ok_dans F39 TD TN GSt b18 ⟨a18, i18, k18⟩ GSe b19 ⟨a19, i19, k19⟩ GKp b20 ⟨a20, i20, k20⟩ GGo b21 ⟨a21, i21, k21⟩ GSl b22 ⟨a22, i22, k22⟩ GAg b23 ⟨a23, i23, k23⟩
    have GBA : FnOk P w K mg base CX0 7 _ _ _ (spBAns ⟨CB, CO, CS, CT⟩) := ok_bans F40 TBd TN GBS b6 ⟨a6, i6, k6⟩ GHd b7 ⟨a7, i7, k7⟩ GLk b10 ⟨a10, i10, k10⟩ GGn b12 ⟨a12, i12, k12⟩ GMx b14 ⟨a14, i14, k14⟩
    exact ok_ans (C := ⟨CB, CO, CS, CT⟩) F41 TA TN ⟨mkCD, a16, i16, kcCD⟩ (PySem.W.mg_of X G aCCD) GDI b16 ⟨mkCB, a4, i4, kcCB⟩ (PySem.W.mg_of X G aCCB) GBI b4 GDA k39 b39 (PySem.W.mg_of X G a39) GBA k40 b40 (PySem.W.mg_of X G a40)
  exact ⟨PySem.W.fnOf "answers" "answers" (defArgs sAns) (defBody sAns) (defScope sAns) .none kV41 dc41 pm41 an41 cd41 ct41, fun s us hu => match us, hu with | [_], _ => .of_eq rfl, fun base _ _ => ok_main (P := P) (w := w) (base := base)⟩
end Sb

set_option Elab.async false
set_option maxRecDepth 100000
def PySem.W.Fast.tw611604463198455032 : Unit := ()
def PySem.W.Fast.tw14185866013233249165 : Unit := ()
def PySem.W.Fast.tw25221390565418047 : Unit := ()
def PySem.W.Fast.tw12041216699973314333 : Unit := ()
def PySem.W.Fast.tw12054457403616298611 : Unit := ()
def PySem.W.Fast.tw15843476547238426172 : Unit := ()
def PySem.W.Fast.tw1381218649899216696 : Unit := ()
open PySem PySem.W PyProof.Rows
set_option maxRecDepth 100000 in
set_option maxHeartbeats 0 in
theorem PySem.Challenge.cw_soundboard_s01_answers_holds : PySem.Challenge.rw_soundboard_s01_answers.Holds := by
  w_on; k_headS; (case hw => exact ⟨[.list [.int 0, .int 1, .int 1]], by decide +kernel, by decide +kernel⟩)
  k_fillS
  refine L2.walk_specK (r := PySem.Challenge.rw_soundboard_s01_answers) (k := 8) (CX := L2.CX0) (ps := ["calls"]) (sp := Sb.spAns) (by decide +kernel) rfl rfl ⟨rfl, by decide, by decide⟩ (fun w h Y => PySem.W.kIn_of Y) ?F ?S (fun _ _ _ _ z => z)
  case F =>
    intro w mg fa h Y KX G hmg
    refine' Sb.all_mk KX G hmg ?aCCO ?a1 ?i1 ?l1 ?c1 ?k1 ?pgCO ?hdCO ?poCO ?saCO ?mkCO ?kcCO ?nCO_number ?nCO_time ?nCO_channel ?nCO_bus ?nCO_gain ?nCO_fade ?aCCS ?a2 ?i2 ?l2 ?c2 ?k2 ?pgCS ?hdCS ?poCS ?saCS ?mkCS ?kcCS ?nCS_number ?nCS_time ?aCCT ?a3 ?i3 ?l3 ?c3 ?k3 ?pgCT ?hdCT ?poCT ?saCT ?mkCT ?kcCT ?nCT_order ?nCT_begun ?aCCB ?a4 ?i4 ?l4 ?c4 ?k4 ?a5 ?i5 ?l5 ?c5 ?k5 ?a6 ?i6 ?l6 ?c6 ?k6 ?a7 ?i7 ?l7 ?c7 ?k7 ?a8 ?i8 ?l8 ?c8 ?k8 ?a9 ?i9 ?l9 ?c9 ?k9 ?a10 ?i10 ?l10 ?c10 ?k10 ?a11 ?i11 ?l11 ?c11 ?k11 ?a12 ?i12 ?l12 ?c12 ?k12 ?a13 ?i13 ?l13 ?c13 ?k13 ?a14 ?i14 ?l14 ?c14 ?k14 ?a15 ?i15 ?l15 ?c15 ?k15 ?pgCB ?hdCB ?poCB ?saCB ?mkCB ?kcCB ?nCB_channels ?nCB_buses ?nCB_seal ?nCB_numbers ?nCB_gains ?aCCD ?a16 ?i16 ?l16 ?c16 ?k16 ?a17 ?i17 ?l17 ?c17 ?k17 ?a18 ?i18 ?l18 ?c18 ?k18 ?a19 ?i19 ?l19 ?c19 ?k19 ?a20 ?i20 ?l20 ?c20 ?k20 ?a21 ?i21 ?l21 ?c21 ?k21 ?a22 ?i22 ?l22 ?c22 ?k22 ?a23 ?i23 ?l23 ?c23 ?k23 ?a24 ?i24 ?l24 ?c24 ?k24 ?pgCD ?hdCD ?poCD ?saCD ?mkCD ?kcCD ?nCD_channels ?nCD_buses ?nCD_orders ?nCD_sealed ?nCD_latest ?nCD_goals ?nCD_goal_times ?nCD_scenes ?a25 ?l25 ?c25 ?k25 ?a26 ?l26 ?c26 ?k26 ?a27 ?l27 ?c27 ?k27 ?a28 ?l28 ?c28 ?k28 ?a29 ?l29 ?c29 ?k29 ?a30 ?l30 ?c30 ?k30 ?a31 ?l31 ?c31 ?k31 ?a32 ?l32 ?c32 ?k32 ?a33 ?l33 ?c33 ?k33 ?a34 ?l34 ?c34 ?k34 ?a35 ?l35 ?c35 ?k35 ?a36 ?l36 ?c36 ?k36 ?a37 ?l37 ?c37 ?k37 ?a38 ?l38 ?c38 ?k38 ?a39 ?l39 ?c39 ?k39 ?a40 ?l40 ?c40 ?k40 ?a41 ?l41 ?c41 ?k41 ?g_CHANNELS_MOST ?g_BUSES_MOST ?g_ORDERS_MOST ?g_UNIT ?g_FADE_MOST ?g_TIME_END ?g_NOT_THERE ?g_NONE_LACKS ?g_TOO_EARLY ?g_NOT_AS_TOLD ?g_NO_ROOM ?g_NOT_RIGHT ?g_ORDER_KIND ?g_SEAL_KIND ?g_ALL_ONES ?g_POLYNOMIAL ?g_BLOCK ?g_OUT_SIZE ?g_LOWEST ?g_HIGHEST ?g_NOT_WHOLE ?g_SCENES ?g_SD_START ?g_SD_SET ?g_SD_KEEP ?g_SD_GO ?g_SD_SEAL ?g_SB_START ?g_SB_HEARD ?g_SB_LACKS ?g_SB_GAIN ?g_SB_MIX ?z_range ?z_len ?z_max ?z_list ?z_min ?z_sum ?z_sorted ?z_reversed ?z_isinstance ?g_NUMBERS_BEHIND ?o_NUMBERS_BEHIND ?xoa ?xsa ?xhn ?xtk ?xom ?xsm ?xko ?xks
    (case aCCO => k_is)
    (case a1 => k_is)
    (case i1 => k_is)
    (case l1 => k_is)
    (case c1 => k_is)
    (case k1 => k_is)
    (case pgCO => k_is)
    (case hdCO => k_is)
    (case poCO => k_is)
    (case saCO => k_is)
    (case mkCO => k_is)
    (case kcCO => k_is)
    (case nCO_number => k_is)
    (case nCO_time => k_is)
    (case nCO_channel => k_is)
    (case nCO_bus => k_is)
    (case nCO_gain => k_is)
    (case nCO_fade => k_is)
    (case aCCS => k_is)
    (case a2 => k_is)
    (case i2 => k_is)
    (case l2 => k_is)
    (case c2 => k_is)
    (case k2 => k_is)
    (case pgCS => k_is)
    (case hdCS => k_is)
    (case poCS => k_is)
    (case saCS => k_is)
    (case mkCS => k_is)
    (case kcCS => k_is)
    (case nCS_number => k_is)
    (case nCS_time => k_is)
    (case aCCT => k_is)
    (case a3 => k_is)
    (case i3 => k_is)
    (case l3 => k_is)
    (case c3 => k_is)
    (case k3 => k_is)
    (case pgCT => k_is)
    (case hdCT => k_is)
    (case poCT => k_is)
    (case saCT => k_is)
    (case mkCT => k_is)
    (case kcCT => k_is)
    (case nCT_order => k_is)
    (case nCT_begun => k_is)
    (case aCCB => k_is)
    (case a4 => k_is)
    (case i4 => k_is)
    (case l4 => k_is)
    (case c4 => k_is)
    (case k4 => k_is)
    (case a5 => k_is)
    (case i5 => k_is)
    (case l5 => k_is)
    (case c5 => k_is)
    (case k5 => k_is)
    (case a6 => k_is)
    (case i6 => k_is)
    (case l6 => k_is)
    (case c6 => k_is)
    (case k6 => k_is)
    (case a7 => k_is)
    (case i7 => k_is)
    (case l7 => k_is)
    (case c7 => k_is)
    (case k7 => k_is)
    (case a8 => k_is)
    (case i8 => k_is)
    (case l8 => k_is)
    (case c8 => k_is)
    (case k8 => k_is)
    (case a9 => k_is)
    (case i9 => k_is)
    (case l9 => k_is)
    (case c9 => k_is)
    (case k9 => k_is)
    (case a10 => k_is)
    (case i10 => k_is)
    (case l10 => k_is)
    (case c10 => k_is)
    (case k10 => k_is)
    (case a11 => k_is)
    (case i11 => k_is)
    (case l11 => k_is)
    (case c11 => k_is)
    (case k11 => k_is)
    (case a12 => k_is)
    (case i12 => k_is)
    (case l12 => k_is)
    (case c12 => k_is)
    (case k12 => k_is)
    (case a13 => k_is)
    (case i13 => k_is)
    (case l13 => k_is)
    (case c13 => k_is)
    (case k13 => k_is)
    (case a14 => k_is)
    (case i14 => k_is)
    (case l14 => k_is)
    (case c14 => k_is)
    (case k14 => k_is)
    (case a15 => k_is)
    (case i15 => k_is)
    (case l15 => k_is)
    (case c15 => k_is)
    (case k15 => k_is)
    (case pgCB => k_is)
    (case hdCB => k_is)
    (case poCB => k_is)
    (case saCB => k_is)
    (case mkCB => k_is)
    (case kcCB => k_is)
    (case nCB_channels => k_is)
    (case nCB_buses => k_is)
    (case nCB_seal => k_is)
    (case nCB_numbers => k_is)
    (case nCB_gains => k_is)
    (case aCCD => k_is)
    (case a16 => k_is)
    (case i16 => k_is)
    (case l16 => k_is)
    (case c16 => k_is)
    (case k16 => k_is)
    (case a17 => k_is)
    (case i17 => k_is)
    (case l17 => k_is)
    (case c17 => k_is)
    (case k17 => k_is)
    (case a18 => k_is)
    (case i18 => k_is)
    (case l18 => k_is)
    (case c18 => k_is)
    (case k18 => k_is)
    (case a19 => k_is)
    (case i19 => k_is)
    (case l19 => k_is)
    (case c19 => k_is)
    (case k19 => k_is)
    (case a20 => k_is)
    (case i20 => k_is)
    (case l20 => k_is)
    (case c20 => k_is)
    (case k20 => k_is)
    (case a21 => k_is)
    (case i21 => k_is)
    (case l21 => k_is)
    (case c21 => k_is)
    (case k21 => k_is)
    (case a22 => k_is)
    (case i22 => k_is)
    (case l22 => k_is)
    (case c22 => k_is)
    (case k22 => k_is)
    (case a23 => k_is)
    (case i23 => k_is)
    (case l23 => k_is)
    (case c23 => k_is)
    (case k23 => k_is)
    (case a24 => k_is)
    (case i24 => k_is)
    (case l24 => k_is)
    (case c24 => k_is)
    (case k24 => k_is)
    (case pgCD => k_is)
    (case hdCD => k_is)
    (case poCD => k_is)
    (case saCD => k_is)
    (case mkCD => k_is)
    (case kcCD => k_is)
    (case nCD_channels => k_is)
    (case nCD_buses => k_is)
    (case nCD_orders => k_is)
    (case nCD_sealed => k_is)
    (case nCD_latest => k_is)
    (case nCD_goals => k_is)
    (case nCD_goal_times => k_is)
    (case nCD_scenes => k_is)
    (case a25 => k_is)
    (case l25 => k_is)
    (case c25 => k_is)
    (case k25 => k_is)
    (case a26 => k_is)
    (case l26 => k_is)
    (case c26 => k_is)
    (case k26 => k_is)
    (case a27 => k_is)
    (case l27 => k_is)
    (case c27 => k_is)
    (case k27 => k_is)
    (case a28 => k_is)
    (case l28 => k_is)
    (case c28 => k_is)
    (case k28 => k_is)
    (case a29 => k_is)
    (case l29 => k_is)
    (case c29 => k_is)
    (case k29 => k_is)
    (case a30 => k_is)
    (case l30 => k_is)
    (case c30 => k_is)
    (case k30 => k_is)
    (case a31 => k_is)
    (case l31 => k_is)
    (case c31 => k_is)
    (case k31 => k_is)
    (case a32 => k_is)
    (case l32 => k_is)
    (case c32 => k_is)
    (case k32 => k_is)
    (case a33 => k_is)
    (case l33 => k_is)
    (case c33 => k_is)
    (case k33 => k_is)
    (case a34 => k_is)
    (case l34 => k_is)
    (case c34 => k_is)
    (case k34 => k_is)
    (case a35 => k_is)
    (case l35 => k_is)
    (case c35 => k_is)
    (case k35 => k_is)
    (case a36 => k_is)
    (case l36 => k_is)
    (case c36 => k_is)
    (case k36 => k_is)
    (case a37 => k_is)
    (case l37 => k_is)
    (case c37 => k_is)
    (case k37 => k_is)
    (case a38 => k_is)
    (case l38 => k_is)
    (case c38 => k_is)
    (case k38 => k_is)
    (case a39 => k_is)
    (case l39 => k_is)
    (case c39 => k_is)
    (case k39 => k_is)
    (case a40 => k_is)
    (case l40 => k_is)
    (case c40 => k_is)
    (case k40 => k_is)
    (case a41 => k_is)
    (case l41 => k_is)
    (case c41 => k_is)
    (case k41 => k_is)
    (case g_CHANNELS_MOST => k_is)
    (case g_BUSES_MOST => k_is)
    (case g_ORDERS_MOST => k_is)
    (case g_UNIT => k_is)
    (case g_FADE_MOST => k_is)
    (case g_TIME_END => k_is)
    (case g_NOT_THERE => k_is)
    (case g_NONE_LACKS => k_is)
    (case g_TOO_EARLY => k_is)
    (case g_NOT_AS_TOLD => k_is)
    (case g_NO_ROOM => k_is)
    (case g_NOT_RIGHT => k_is)
    (case g_ORDER_KIND => k_is)
    (case g_SEAL_KIND => k_is)
    (case g_ALL_ONES => k_is)
    (case g_POLYNOMIAL => k_is)
    (case g_BLOCK => k_is)
    (case g_OUT_SIZE => k_is)
    (case g_LOWEST => k_is)
    (case g_HIGHEST => k_is)
    (case g_NOT_WHOLE => k_is)
    (case g_SCENES => k_is)
    (case g_SD_START => k_is)
    (case g_SD_SET => k_is)
    (case g_SD_KEEP => k_is)
    (case g_SD_GO => k_is)
    (case g_SD_SEAL => k_is)
    (case g_SB_START => k_is)
    (case g_SB_HEARD => k_is)
    (case g_SB_LACKS => k_is)
    (case g_SB_GAIN => k_is)
    (case g_SB_MIX => k_is)
    (case z_range => k_is)
    (case z_len => k_is)
    (case z_max => k_is)
    (case z_list => k_is)
    (case z_min => k_is)
    (case z_sum => k_is)
    (case z_sorted => k_is)
    (case z_reversed => k_is)
    (case z_isinstance => k_is)
    (case g_NUMBERS_BEHIND => k_is)
    (case o_NUMBERS_BEHIND => k_is)
    (case xoa => k_is)
    (case xsa => k_is)
    (case xhn => k_is)
    (case xtk => k_is)
    (case xom => k_is)
    (case xsm => k_is)
    (case xko => kit_is)
    (case xks => kit_is)
  case S =>
    intro K H xs a hO hwi hask hx
    cases hx with
    | cons h1 h2 =>
      cases h2
      cases h1 with
      | lst hs ha =>
        have e := L2.ints_dw a.1 _ ha
        subst e
        exact ⟨_, a.1, rfl, hs, hask, fun H' p hp => .lst (L2.SqL.of hp) (L2.dw_ints _)⟩
#print axioms PySem.Challenge.cw_soundboard_s01_answers_holds
