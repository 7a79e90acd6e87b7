import PyProof.Rows.All
import Wide.All
import OpenK.AllK
import Wide.FinOn
import PyProof.EqAt
import PyProof.EqKinds
import PyProof.TupleCall
import KE.BitLaws
import Open.SpecLaws
import KE.OsHead
import KE.OsGo
import PySem.Challenge.RW_primering_s01_answers
-- CHANGE: your row's module here, as the last of these rows
set_option Elab.async false
set_option linter.all false
set_option maxRecDepth 100000
/-! THE HAND LAYER, for ints, bools, texts, own classes, lists, tuples, dicts, comprehensions, walks over dicts, enumerate, zip, reversed, texts, calls, loops. Paste it whole ahead of your own text; what your proof does not reach may be deleted. -/
namespace L2
open PySem PySem.Spec PyProof.Rows

/-- a key: an int or a str -/
abbrev Key := Sum Int Str
def keyIs : Key → Value → Bool
  | .inl k, v => Value.isInt k v
  | .inr x, v => Value.isStrOf x v
def keyH (w : World) : Key → Int
  | .inl k => hashInt k
  | .inr x => hashStr w x
theorem keyIs_shape : ∀ {k : Key} {v : Value}, keyIs k v = true → (∃ i t, k = Sum.inl i ∧ v = Value.int i t) ∨ (∃ x t, k = Sum.inr x ∧ v = Value.str x t)
  | .inl i, v, h => by
    obtain ⟨t, e⟩ := Value.isInt_shape (k := i) (v := v) h
    exact .inl ⟨i, t, rfl, e⟩
  | .inr x, v, h => by
    obtain ⟨t, e⟩ := Value.isStrOf_shape (x := x) (v := v) h
    exact .inr ⟨x, t, rfl, e⟩
theorem keyIs_int (i : Int) (t : Tok) : keyIs (.inl i) (.int i t) = true := by simp [keyIs, Value.isInt]
theorem keyIs_str (x : Str) (t : Tok) : keyIs (.inr x) (.str x t) = true := by simp [keyIs, Value.isStrOf]
theorem key_ll (a b : Int) : decide ((Sum.inl a : Key) = Sum.inl b) = (a == b) := by
  by_cases e : a = b
  · subst e; simp
  · have h : ¬ (Sum.inl a : Key) = Sum.inl b := fun q => e (Sum.inl.inj q)
    rw [decide_eq_false h]
    exact (beq_eq_false_iff_ne.mpr e).symm
theorem key_rr (a b : Str) : decide ((Sum.inr a : Key) = Sum.inr b) = decide (a = b) := by
  by_cases e : a = b
  · subst e; simp
  · have h : ¬ (Sum.inr a : Key) = Sum.inr b := fun q => e (Sum.inr.inj q)
    rw [decide_eq_false h, decide_eq_false e]
theorem key_lr (a : Int) (b : Str) : decide ((Sum.inl a : Key) = Sum.inr b) = false := decide_eq_false (fun q => nomatch q)
theorem key_rl (a : Str) (b : Int) : decide ((Sum.inr a : Key) = Sum.inl b) = false := decide_eq_false (fun q => nomatch q)

def mixKind (prog : Program) (w : World) : PySem.KeyKind prog w Key where
  is := keyIs
  hash := keyH w
  inj := fun v a b ha hb => by
    rcases keyIs_shape ha with ⟨i, t, rfl, rfl⟩ | ⟨x, t, rfl, rfl⟩
    · rcases keyIs_shape hb with ⟨j, u, rfl, e⟩ | ⟨y, u, rfl, e⟩
      · injection e with e1 _; rw [e1]
      · exact nomatch e
    · rcases keyIs_shape hb with ⟨j, u, rfl, e⟩ | ⟨y, u, rfl, e⟩
      · exact nomatch e
      · injection e with e1 _; rw [e1]
  byValue := fun k v h => by
    rcases keyIs_shape h with ⟨i, t, rfl, rfl⟩ | ⟨x, t, rfl, rfl⟩ <;> rfl
  pyHash := fun hv h => by
    rcases keyIs_shape hv with ⟨i, t, rfl, rfl⟩ | ⟨x, t, rfl, rfl⟩
    · exact wpAny_pyHash_int h
    · exact wpAny_pyHash_str h
  eqBool := fun hu hv h => by
    rcases keyIs_shape hu with ⟨i, t, rfl, rfl⟩ | ⟨x, t, rfl, rfl⟩
    · rcases keyIs_shape hv with ⟨j, u, rfl, rfl⟩ | ⟨y, u, rfl, rfl⟩
      · rw [key_ll] at h; exact wpAny_eqBool_int h
      · rw [key_lr] at h; exact SeqAt.EqAt.int_str i t y u _ _ _ _ h
    · rcases keyIs_shape hv with ⟨j, u, rfl, rfl⟩ | ⟨y, u, rfl, rfl⟩
      · rw [key_rl] at h; exact SeqAt.EqAt.str_int x t j u _ _ _ _ h
      · rw [key_rr] at h; exact wpAny_eqBool_str h
  «strs» := fun k x t v h => by
    rcases keyIs_shape h with ⟨i, u, rfl, e⟩ | ⟨y, u, rfl, e⟩
    · exact nomatch e
    · injection e with e1 _
      subst e1
      cases v <;> rfl

theorem mixKind_int (prog : Program) (w : World) (i : Int) (t : Tok) : (mixKind prog w).is (.inl i) (.int i t) = true := keyIs_int i t
theorem mixKind_str (prog : Program) (w : World) (x : Str) (t : Tok) : (mixKind prog w).is (.inr x) (.str x t) = true := keyIs_str x t
end L2

namespace L2
open PySem PySem.Spec PyProof.Rows

/-- a value, without the heap -/
inductive V where
  | non | bl (b : Bool) | int (i : Int) | str (x : Str) | byt (b : Array UInt8) | flt (b : UInt64) | ref (a : Addr) | ty (n : String)
  deriving DecidableEq

def RelV : V → Value → Prop
  | .non, u => u = Value.none
  | .bl b, u => u = Value.bool b
  | .int i, u => ∃ t, u = Value.int i t
  | .str x, u => ∃ t, u = Value.str x t
  | .byt b, u => ∃ t, u = Value.bytes b t
  | .flt b, u => ∃ t, u = Value.float b t
  | .ref a, u => u = Value.ref a
  | .ty n, u => u = Value.type n

abbrev Vals : List V → List Value → Prop := Paired RelV
theorem Vals.length {xs : List V} {us : List Value} (r : Vals xs us) : xs.length = us.length := Paired.length r
theorem Vals.get : ∀ {xs : List V} {us : List Value} {i : Nat} {x : V}, Vals xs us → xs[i]? = some x → ∃ u, us[i]? = some u ∧ RelV x u
  | _, _, _, _, .nil, e => by simp at e
  | _, _, 0, _, .cons r _, e => by simp at e; subst e; exact ⟨_, rfl, r⟩
  | _, _, i + 1, x, .cons _ t, e => by
    obtain ⟨u, h1, h2⟩ := Vals.get (i := i) (x := x) t (by simpa using e)
    exact ⟨u, by simpa using h1, h2⟩
theorem Vals.set {x : V} {u : Value} (r : RelV x u) : ∀ {xs : List V} {us : List Value} (i : Nat), Vals xs us → Vals (xs.set i x) (us.set i u)
  | _, _, _, .nil => .nil
  | _, _, 0, .cons _ t => .cons r t
  | _, _, i + 1, .cons q t => .cons q (Vals.set r i t)
theorem Vals.append : ∀ {xs ys : List V} {us ws : List Value}, Vals xs us → Vals ys ws → Vals (xs ++ ys) (us ++ ws)
  | _, _, _, _, .nil, s => s
  | _, _, _, _, .cons r t, s => .cons r (Vals.append t s)
theorem Vals.take : ∀ {xs : List V} {us : List Value} (n : Nat), Vals xs us → Vals (xs.take n) (us.take n)
  | _, _, 0, _ => .nil
  | _, _, _ + 1, .nil => .nil
  | _, _, n + 1, .cons r t => .cons r (Vals.take n t)
theorem Vals.drop : ∀ {xs : List V} {us : List Value} (n : Nat), Vals xs us → Vals (xs.drop n) (us.drop n)
  | _, _, 0, r => r
  | _, _, _ + 1, .nil => .nil
  | _, _, n + 1, .cons _ t => Vals.drop n t

def RelO : Option V → Option Value → Prop
  | some v, some u => RelV v u
  | none, none => True
  | _, _ => False
def KV {κ : Type} : List (κ × V) → List (κ × Value) → Prop := Paired fun (p : κ × V) (q : κ × Value) => p.1 = q.1 ∧ RelV p.2 q.2

/-- a key of a dict (00_mix): an int or a text -/
def kV : Key → V
  | .inl i => .int i
  | .inr x => .str x

/-- what stands at a tracked address -/
inductive HO where
  /-- a list -/
  | lst (xs : List V)
  /-- a tuple (never changes) -/
  | tup (xs : List V)
  /-- a dict whose keys are ints and texts; one whose keys are tuples of ints and texts (the empty one is both) -/
  | dK (kvs : List (Key × V)) | dT (kvs : List (List Key × V))
  /-- a set of ints: its members, its size -/
  | set (S : Int → Bool) (n : Nat)
  /-- an instance of the class at C, its dict at dx, its attributes -/
  | ins (C dx : Addr) (fs : List (Str × V))
  /-- the dict of the instance at x -/
  | own (x : Addr)
  /-- the dict of an exception -/
  | xd (fs : List (Str × V))
  /-- a bound method, f of x -/
  | met (f x : Addr)
  /-- a range object lo, lo + 1, .. below hi -/
  | rng (lo hi : Int)
  /-- a thing that is known to the object (the script; a dict while a loop walks it): read, never written while it is so -/
  | frz (o : Obj) (u : HO)
  /-- a code object's table -/
  | tbl (ps : Array Value)
  /-- any other thing, by what is true of its one object (a def of one's own: SetO a S n := HO.ext fun h => ..) -/
  | ext (φ : Heap → Prop)

abbrev Hp := Addr → Option HO
def upd (H : Hp) (a : Addr) (o : HO) : Hp := fun b => if b = a then some o else H b
theorem upd_same {H : Hp} {a : Addr} {o : HO} : upd H a o a = some o := by unfold upd; rw [if_pos rfl]
theorem upd_ne {H : Hp} {a b : Addr} {o : HO} (h : b ≠ a) : upd H a o b = H b := by unfold upd; rw [if_neg h]
theorem upd_upd {H : Hp} {a : Addr} {o u : HO} : upd (upd H a o) a u = upd H a u := by
  funext b; unfold upd; split <;> rfl
/-- two objects of different content stand apart -/
theorem ne_of {H : Hp} {a b : Addr} {o u : HO} (h : H a = some o) (h' : H b = some u) (d : o ≠ u) : a ≠ b := by
  intro e; subst e; rw [h] at h'; exact d (Option.some.inj h')
theorem ne_of_none {H : Hp} {a b : Addr} {o : HO} (h : H a = some o) (h' : H b = none) : a ≠ b := by
  intro e; subst e; rw [h] at h'; cases h'

section
variable (P : Program) (w : World)
def ObjOk (H : Hp) (h : Heap) (a : Addr) : HO → Prop
  | .lst xs => xs.length ≤ sizeLine ∧ ∃ (its : List Value) (n : Nat), Vals xs its ∧ h.get? a = some { cls := .type "list", data := .seq its.toArray n }
  | .tup xs => xs.length ≤ sizeLine ∧ ∃ its : List Value, Vals xs its ∧ IsTup h a its.toArray
  | .dK kvs => kvs.length ≤ sizeLine ∧ (a == sysModules) = false ∧ ∃ vs, KV kvs vs ∧ h.DictOf (mixKind P w) a vs
  | .dT kvs => kvs.length ≤ sizeLine ∧ (a == sysModules) = false ∧ ∃ xs : List (List Key × Addr × Value),
      Paired (fun (p : List Key × V) (q : List Key × Addr × Value) => p.1 = q.1 ∧ H q.2.1 = some (.tup (p.1.map kV)) ∧ RelV p.2 q.2.2) kvs xs ∧
      ∃ o es ep, h.get? a = some o ∧ o.ExactDict ∧ o.data = .dict es ep ∧ es.toList = xs.map (entryOfKey (tupleKind (mixKind P w))) ∧ (xs.map (·.1)).Nodup
  | .set S n => h.SetOf (intKind P w) a S n
  | .ins C dx fs => H dx = some (.own a) ∧ fs.length ≤ 1000 ∧ dx ≠ a ∧ h.get? a = some (PySem.W.instObj C dx) ∧
      ∃ mA, h.Ns1 dx mA ∧ (∀ f, RelO (fs.lookup f) (mA f)) ∧ PySem.Within mA (fs.map (·.1))
  | .own _ => ∃ o, h.get? a = some o
  | .xd fs => ∃ mA, h.Ns1 a mA ∧ ∀ f, RelO (fs.lookup f) (mA f)
  | .rng lo hi => ∃ t u v, h.get? a = some { cls := .type "range", data := .fields #[.int lo t, .int hi u, .int 1 v] }
  | .frz o u => h.get? a = some o ∧ ObjOk H h a u
  | .tbl ps => h.get? a = some { cls := .none, data := .fields ps }
  | .met f x => h.get? a = some (PySem.W.methodObj (.ref f) (.ref x))
  | .ext φ => φ h ∧ (∃ o, h.get? a = some o) ∧ ∀ h1 h2 : Heap, φ h1 → (∀ o, h1.get? a = some o → h2.get? a = some o) → φ h2
/-- the abstract heap is held -/
def HOk (H : Hp) (h : Heap) : Prop := ∀ a o, H a = some o → ObjOk P w H h a o
end

section
variable {P : Program} {w : World} {H H' : Hp} {h h' : Heap} {a : Addr} {o : HO}
theorem ObjOk.lt (x : ObjOk P w H h a o) : a < h.objs.size := by
  cases o with
  | lst xs => obtain ⟨_, _, _, _, e⟩ := x; exact Heap.lt_size e
  | tup xs => obtain ⟨_, _, _, p⟩ := x; exact p.lt
  | dK kvs => obtain ⟨_, _, _, _, o, _, _, e, _⟩ := x; exact Heap.lt_size e
  | dT kvs => obtain ⟨_, _, _, _, o, _, _, e, _⟩ := x; exact Heap.lt_size e
  | set S n => obtain ⟨o, _, _, _, e, _⟩ := x; exact Heap.lt_size e
  | ins C dx fs => obtain ⟨_, _, _, e, _⟩ := x; exact Heap.lt_size e
  | own y => obtain ⟨_, e⟩ := x; exact Heap.lt_size e
  | xd fs => obtain ⟨_, ⟨_, _, _, e, _⟩, _⟩ := x; exact Heap.lt_size e
  | rng lo hi => obtain ⟨_, _, _, e⟩ := x; exact Heap.lt_size e
  | frz ob u => obtain ⟨e, _⟩ := x; exact Heap.lt_size e
  | tbl ps => exact Heap.lt_size (show h.get? a = some _ from x)
  | met f y => exact Heap.lt_size (show h.get? a = some _ from x)
  | ext φ => obtain ⟨_, ⟨_, e⟩, _⟩ := x; exact Heap.lt_size e
theorem Paired.mapP {α β : Type} {F G : α → β → Prop} : ∀ {l₁ : List α} {l₂ : List β}, Paired F l₁ l₂ → (∀ a b, F a b → G a b) → Paired G l₁ l₂
  | _, _, .nil, _ => .nil
  | _, _, .cons r t, f => .cons (f _ _ r) (Paired.mapP t f)
/-- what an object's description leans on: its own object, its own dict, the tuples -/
theorem ObjOk.stay (x : ObjOk P w H h a o) (k : ∀ b u, (b = a ∨ H b = some (.own a)) → h.get? b = some u → h'.get? b = some u)
    (ho : ∀ b, H b = some (.own a) → H' b = some (.own a)) (ht : ∀ b xs, H b = some (.tup xs) → H' b = some (.tup xs)) : ObjOk P w H' h' a o := by
  induction o with
  | lst xs => obtain ⟨z, its, n, r, e⟩ := x; exact ⟨z, its, n, r, k _ _ (.inl rfl) e⟩
  | tup xs => obtain ⟨z, its, r, ob, e, c⟩ := x; exact ⟨z, its, r, ob, k _ _ (.inl rfl) e, c⟩
  | dK kvs => obtain ⟨z, y, vs, r, ob, es, ep, e, c⟩ := x; exact ⟨z, y, vs, r, ob, es, ep, k _ _ (.inl rfl) e, c⟩
  | dT kvs =>
    obtain ⟨z, y, xs, r, ob, es, ep, e, c⟩ := x
    exact ⟨z, y, xs, Paired.mapP r fun p q z => ⟨z.1, ht _ _ z.2.1, z.2.2⟩, ob, es, ep, k _ _ (.inl rfl) e, c⟩
  | set S n => obtain ⟨ob, es, ep, t, e, c⟩ := x; exact ⟨ob, es, ep, t, k _ _ (.inl rfl) e, c⟩
  | ins C dx fs =>
    obtain ⟨d, z, ne, e, mA, ⟨od, es, ep, e2, c⟩, r⟩ := x
    exact ⟨ho _ d, z, ne, k _ _ (.inl rfl) e, mA, ⟨od, es, ep, k _ _ (.inr d) e2, c⟩, r⟩
  | own y => obtain ⟨ob, e⟩ := x; exact ⟨ob, k _ _ (.inl rfl) e⟩
  | xd fs => obtain ⟨mA, ⟨od, es, ep, e, c⟩, r⟩ := x; exact ⟨mA, ⟨od, es, ep, k _ _ (.inl rfl) e, c⟩, r⟩
  | rng lo hi => obtain ⟨t, u, v, e⟩ := x; exact ⟨t, u, v, k _ _ (.inl rfl) e⟩
  | frz ob u ih => obtain ⟨e, q⟩ := x; exact ⟨k _ _ (.inl rfl) e, ih q⟩
  | tbl ps =>
    have e : h.get? a = some { cls := .none, data := .fields ps } := x
    show h'.get? a = some { cls := .none, data := .fields ps }
    exact k a _ (.inl rfl) e
  | met f y =>
    have e : h.get? a = some (PySem.W.methodObj (.ref f) (.ref y)) := x
    show h'.get? a = some (PySem.W.methodObj (.ref f) (.ref y))
    exact k a _ (.inl rfl) e
  | ext φ => obtain ⟨p, ⟨o, e⟩, st⟩ := x; exact ⟨st _ _ p fun o q => k _ _ (.inl rfl) q, ⟨o, k _ _ (.inl rfl) e⟩, st⟩
theorem HOk.lt (x : HOk P w H h) (e : H a = some o) : a < h.objs.size := (x a o e).lt
theorem HOk.fresh (x : HOk P w H h) (e : h.objs.size ≤ a) : H a = none := by
  cases q : H a with
  | none => rfl
  | some u => exact absurd (Nat.lt_of_lt_of_le (x.lt q) e) (Nat.lt_irrefl _)
/-- every object of the heap is kept -/
theorem HOk.kept (x : HOk P w H h) (k : ∀ b u, h.get? b = some u → h'.get? b = some u) : HOk P w H h' := fun a o e =>
  (x a o e).stay (fun b u _ q => k b u q) (fun _ q => q) fun _ _ q => q
/-- a new object is laid and tracked -/
theorem HOk.laid (x : HOk P w H h) (k : ∀ b u, h.get? b = some u → h'.get? b = some u) (hp : h.objs.size ≤ a) (new : ObjOk P w (upd H a o) h' a o) : HOk P w (upd H a o) h' := fun b u e => by
  have hn := x.fresh hp
  by_cases hb : b = a
  · subst hb; rw [upd_same] at e; cases e; exact new
  · rw [upd_ne hb] at e
    exact (x b u e).stay (fun c v _ q => k c v q) (fun c q => by rw [upd_ne (ne_of_none q hn)]; exact q) fun c xs q => by rw [upd_ne (ne_of_none q hn)]; exact q
end

/-- what may be read as u: it is u, or a known u -/
def Rd (H : Hp) (a : Addr) (u : HO) : Prop := H a = some u ∨ ∃ o, H a = some (.frz o u)
theorem Rd.ok {P : Program} {w : World} {H : Hp} {h : Heap} {a : Addr} {u : HO} (r : Rd H a u) (x : HOk P w H h) : ObjOk P w H h a u := by
  rcases r with r | ⟨o, r⟩
  · exact x a u r
  · obtain ⟨_, q⟩ := x a _ r
    exact q
/-- what may be written -/
def Mut : Option HO → Prop
  | some (.lst _) => True
  | some (.dK _) => True
  | some (.dT _) => True
  | some (.set _ _) => True
  | some (.ins _ _ _) => True
  | some (.ext _) => True
  | _ => False
section
variable {P : Program} {w : World} {H : Hp} {h h' : Heap} {x e : Addr} {o' : HO}
/-- the object at e is changed: x itself, or the dict of the instance x -/
theorem HOk.write (ok : HOk P w H h) (mu : Mut (H x)) (he : e = x ∨ H e = some (.own x)) (k : ∀ b u, b ≠ e → h.get? b = some u → h'.get? b = some u) (heo : ∃ u, h'.get? e = some u)
    (new : ObjOk P w (upd H x o') h' x o') : HOk P w (upd H x o') h' := fun b u q => by
  have nown : ∀ c y, H c = some (.own y) → c ≠ x := fun c y r z => by subst z; rw [r] at mu; exact mu
  have ntup : ∀ c xs, H c = some (.tup xs) → c ≠ x := fun c xs r z => by subst z; rw [r] at mu; exact mu
  by_cases hb : b = x
  · subst hb; rw [upd_same] at q; cases q; exact new
  · rw [upd_ne hb] at q
    by_cases hbe : b = e
    · have q' : H b = some (.own x) := by
        rcases he with z | z
        · exact absurd (hbe.trans z) hb
        · rw [hbe]; exact z
      rw [q] at q'; cases q'
      obtain ⟨v, hv⟩ := heo
      exact ⟨v, by rw [hbe]; exact hv⟩
    · refine (ok b u q).stay (fun c v hc r => k c v ?_ r) (fun c r => by rw [upd_ne (nown c b r)]; exact r) fun c xs r => by rw [upd_ne (ntup c xs r)]; exact r
      rcases hc with rfl | hc
      · exact hbe
      · rintro rfl
        rcases he with z | z
        · exact nown c b hc z
        · rw [hc] at z; cases z; exact hb rfl
end

/-! ### kept unless tracked; of the frames at fs (the callers') the slots may change (an exception that passes writes there); of the records at ex (iterators) nothing is said -/
structure Un (fs ex : List Addr) (H H' : Hp) (h h' : Heap) : Prop where
  keep : ∀ b o, h.get? b = some o → H b = none → b ∉ fs → b ∉ ex → h'.get? b = some o
  slot : ∀ b o, h.get? b = some o → H b = none → b ∈ fs → b ∉ ex → ∃ sl, h'.get? b = some { o with slots := sl }
  free : ∀ b o, h.get? b = some o → H b = none → b ∉ ex → H' b = none
  there : ∀ b o, h.get? b = some o → b ∉ ex → ∃ o', h'.get? b = some o'
  tups : ∀ b xs, H b = some (.tup xs) → H' b = some (.tup xs)
  frzs : ∀ b o u, H b = some (.frz o u) → H' b = some (.frz o u)
  tbls : ∀ b ps, H b = some (.tbl ps) → ∃ more, H' b = some (.tbl (ps ++ more))
section
variable {fs fs' ex ex' : List Addr} {H H1 H2 : Hp} {h h1 h2 h' : Heap} {a x e : Addr} {o : HO}
theorem Un.any (u : Un fs ex H H1 h h1) {b : Addr} {ob : Obj} (q : h.get? b = some ob) (n : H b = none) (hx : b ∉ ex) : ∃ sl, h1.get? b = some { ob with slots := sl } := by
  by_cases hb : b ∈ fs
  · exact u.slot b ob q n hb hx
  · exact ⟨ob.slots, u.keep b ob q n hb hx⟩
theorem Un.kept (k : ∀ b u, h.get? b = some u → h'.get? b = some u) : Un fs ex H H h h' :=
  ⟨fun b ob q _ _ _ => k b ob q, fun b ob q _ _ _ => ⟨ob.slots, k b ob q⟩, fun _ _ _ n _ => n, fun b ob q _ => ⟨ob, k b ob q⟩, fun _ _ q => q, fun _ _ _ q => q, fun _ ps q => ⟨#[], by rw [q]; simp⟩⟩
theorem Un.refl : Un fs ex H H h h := Un.kept fun _ _ q => q
theorem Un.laid (k : ∀ b u, h.get? b = some u → h'.get? b = some u) (hp : h.objs.size ≤ a) (hn : H a = none) : Un fs ex H (upd H a o) h h' where
  keep := fun b u q _ _ _ => k b u q
  slot := fun b u q _ _ _ => ⟨u.slots, k b u q⟩
  free := fun b u q n _ => by rw [upd_ne (Nat.ne_of_lt (Nat.lt_of_lt_of_le (Heap.lt_size q) hp))]; exact n
  there := fun b u q _ => ⟨u, k b u q⟩
  tups := fun b xs q => by rw [upd_ne (ne_of_none q hn)]; exact q
  frzs := fun b u xs q => by rw [upd_ne (ne_of_none q hn)]; exact q
  tbls := fun b ps q => ⟨#[], by rw [upd_ne (ne_of_none q hn), q]; simp⟩
theorem Un.write (mu : Mut (H x)) (he : e = x ∨ H e = some (.own x)) (k : ∀ b u, b ≠ e → h.get? b = some u → h'.get? b = some u) (heo : ∃ u, h'.get? e = some u) : Un fs ex H (upd H x o) h h' := by
  have hx : ∀ b, H b = none → b ≠ x := fun b n z => by subst z; rw [n] at mu; exact mu
  have hb : ∀ b, H b = none → b ≠ e := fun b n z => by
    subst z
    rcases he with r | r
    · exact hx b n r
    · rw [n] at r; cases r
  have hm : ∀ b u, H b = some u → ¬ Mut (some u) → b ≠ x := fun b u q nm z => by subst z; rw [q] at mu; exact nm mu
  refine ⟨fun b u q n _ _ => k b u (hb b n) q, fun b u q n _ _ => ⟨u.slots, k b u (hb b n) q⟩, fun b u q n _ => by rw [upd_ne (hx b n)]; exact n, fun b u q _ => ?_,
    fun b xs q => by rw [upd_ne (hm b _ q fun z => z)]; exact q, fun b u xs q => by rw [upd_ne (hm b _ q fun z => z)]; exact q, fun b ps q => ⟨#[], by rw [upd_ne (hm b _ q fun z => z), q]; simp⟩⟩
  by_cases hbe : b = e
  · subst hbe; exact heo
  · exact ⟨u, k b u hbe q⟩
end

/-! ### the heap without what is tracked -/
def trk (h : Heap) (H : Hp) : List Addr := (List.range h.objs.size).filter fun a => (H a).isSome
def hidT (h : Heap) (H : Hp) : Heap := PySem.W.hideAll h (trk h H)
theorem hidT_size (h : Heap) (H : Hp) : (hidT h H).objs.size = h.objs.size := PySem.W.hideAll_size _ _
theorem hidT_get {h : Heap} {H : Hp} {b : Addr} {o : Obj} (e : h.get? b = some o) (n : H b = none) : (hidT h H).get? b = some o :=
  PySem.W.hideAll_get _ e fun hm => by
    have q : (H b).isSome = true := (List.mem_filter.mp hm).2
    rw [n] at q; simp at q
theorem of_hidT {h : Heap} {H : Hp} {b : Addr} {o : Obj} (e : (hidT h H).get? b = some o) : h.get? b = some o ∧ H b = none := by
  have e' : h.get? b = some o := PySem.W.of_hideAll (trk h H) e
  refine ⟨e', ?_⟩
  cases q : H b with
  | none => rfl
  | some x =>
    have hm : b ∈ trk h H := List.mem_filter.mpr ⟨List.mem_range.mpr (Heap.lt_size e'), by simp [q]⟩
    have z : (hidT h H).get? b = none := PySem.W.hideAll_none (trk h H) hm
    rw [z] at e; cases e

/-! ### OpenK's ledger, filled with every new object but one -/
end L2

namespace L2
open PySem PySem.Spec PyProof.Rows

/-- the module's facts, over the base: the heap at the law's entry without what is tracked there -/
structure Mod (K : PySem.W.Frag) (mg : Str → Option Value) (base : Heap) : Prop where
  kin : K.In base
  glob : base.Ns mainGlobals mg
  blt : ∃ mb, base.Ns builtinsNs mb ∧ ∀ x : Str, x ≠ "__name__" → mb x = bootBuiltins x
  nolimit : base.NoLimit

/-- the context: a def's body (or a comprehension's block) running. base: fixed through the whole law; s₀, H₀: the entry; outer: the frames whose slots others may change (a def's callers); stack: all frames that run;
   ex: iterators that were made ahead of the entry and are walked here (a comprehension's); fn: the names whose cells were made at the entry (a def: all; a comprehension's block: its own); calm: not within an except suite; pn: pins that every state bears; xe: what is wanted of an exception that leaves the code -/
structure Cx where
  prog : Program
  w : World
  K : PySem.W.Frag
  mg : Str → Option Value
  base : Heap
  A : Around
  N : List Str
  s_0 : Shared
  H_0 : Hp
  env : Env
  outer : List Env
  stack : List Env
  ex : List Addr
  fn : Str → Bool
  calm : Bool
  pn : List (Addr × Obj)
  xe : Value → Shared → Prop
/-- the callers' frames -/
def frs (l : List Env) : List Addr := l.filterMap (·.frame)
abbrev Cx.fs (X : Cx) : List Addr := frs X.outer

def Vis (sc : Scope) (x : Str) : Prop := sc.names.lookup x = some .local ∨ sc.names.lookup x = some .cell ∨ sc.names.lookup x = some .free
def Loc (sc : Scope) (x : Str) : Prop := sc.names.lookup x = some .local ∨ sc.names.lookup x = some .cell
def Look (env : Env) (h : Heap) (m : Str → Option Value) (x : Str) (u : Value) : Prop :=
  (env.kindOf x = some .local ∧ m x = some u) ∨ ((env.kindOf x = some .cell ∨ env.kindOf x = some .free) ∧ ∃ c, env.cells.lookup x = some c ∧ h.IsCell c (some u))

structure Cx.Ok (X : Cx) : Prop where
  mod : Mod X.K X.mg X.base
  kind : X.env.scope.kind = .function
  glob : X.env.globals = mainGlobals
  blt : X.env.builtins = builtinsNs
  above : X.s_0.heap.objs.size ≤ X.env.locals
  inj : ∀ x y c, X.env.cells.lookup x = some c → X.env.cells.lookup y = some c → x = y
  has : ∀ x, (X.env.kindOf x = some .cell ∨ X.env.kindOf x = some .free) → ∃ c, X.env.cells.lookup x = some c
  cab : ∀ x c, X.fn x = true → X.env.cells.lookup x = some c → X.s_0.heap.objs.size ≤ c
  hd : X.calm = true → X.A.handled = none
  frames : X.A.frames = some X.stack
  stk : X.stack = X.outer ∨ (X.stack = X.env :: X.outer ∧ X.env.frame = some X.env.locals)
  exf : ∀ b ∈ X.ex, b ≠ X.env.locals ∧ ∀ x c, X.env.cells.lookup x = some c → c ≠ b
  bs : ∀ b o, X.base.get? b = some o → X.s_0.heap.get? b = some o ∧ X.H_0 b = none
  bsz : X.base.objs.size ≤ X.s_0.heap.objs.size
  noex : ∀ b o, X.base.get? b = some o → b ∉ X.ex
  exfs : ∀ b ∈ X.ex, b ∉ X.fs
  funs : X.s_0.heap.FunFrames X.base X.outer
  frf : ∀ b ∈ X.fs, X.H_0 b = none

structure Inv (X : Cx) (pins : List (Addr × Obj)) (σ : List (Option V)) (H : Hp) (s : Shared) : Prop where
  ok : X.Ok
  os : s.os = X.s_0.os
  bare : AllBare s.gens
  base : Un X.fs X.ex X.H_0 H X.s_0.heap s.heap
  loc : ∃ m, s.heap.Ns X.env.locals m ∧ ∀ (i : Nat) (x : Str) (v : V), X.N[i]? = some x → σ[i]? = some (some v) → Vis X.env.scope x → ∃ u, RelV v u ∧ Look X.env s.heap m x u
  cell : ∀ x c, X.env.cells.lookup x = some c → ∃ v, s.heap.IsCell c v
  free : H X.env.locals = none
  freeC : ∀ x c, X.env.cells.lookup x = some c → H c = none
  pin : ∀ p ∈ X.pn ++ pins, s.heap.get? p.1 = some p.2 ∧ H p.1 = none ∧ p.1 ≠ X.env.locals ∧ p.1 ∉ X.fs ∧ ∀ v, p.2.data ≠ .cell v
  hok : HOk X.prog X.w H s.heap
  len : σ.length = X.N.length

section
variable {X : Cx} {pins : List (Addr × Obj)} {σ : List (Option V)} {H H' : Hp} {s : Shared} {h' : Heap}

theorem Cx.Ok.nofr (ok : X.Ok) {b : Addr} {o : Obj} (e : X.base.get? b = some o) : b ∉ X.fs := fun hb => by
  have := (ok.funs.mem hb).1
  rw [e] at this; cases this
theorem Inv.bs (I : Inv X pins σ H s) : ∀ b o, X.base.get? b = some o → s.heap.get? b = some o ∧ H b = none := fun b o e =>
  ⟨I.base.keep b o (I.ok.bs b o e).1 (I.ok.bs b o e).2 (I.ok.nofr e) (I.ok.noex b o e), I.base.free b o (I.ok.bs b o e).1 (I.ok.bs b o e).2 (I.ok.noex b o e)⟩
theorem Inv.bk (I : Inv X pins σ H s) : ∀ b o, X.base.get? b = some o → s.heap.get? b = some o := fun b o e => (I.bs b o e).1
theorem Inv.mod (I : Inv X pins σ H s) : Mod X.K X.mg X.base := I.ok.mod
theorem Inv.kIn (I : Inv X pins σ H s) : X.K.In s.heap := I.ok.mod.kin.keeps I.bk
/-- the frame over the base: for OpenK's rules (K.In X.base is I.mod.kin) -/
theorem Inv.fr (I : Inv X pins σ H s) : ∃ m, Fr X.base X.env.locals s.heap m :=
  let ⟨m, hn, _⟩ := I.loc
  ⟨m, hn, I.bk, Nat.le_trans I.ok.bsz I.ok.above⟩
theorem Inv.lt (I : Inv X pins σ H s) : X.env.locals < s.heap.objs.size := let ⟨_, hn, _⟩ := I.loc; hn.lt
theorem Inv.sz (I : Inv X pins σ H s) : X.s_0.heap.objs.size ≤ s.heap.objs.size := Nat.le_trans I.ok.above (Nat.le_of_lt I.lt)
theorem Inv.nofs (I : Inv X pins σ H s) {a : Addr} (h : s.heap.objs.size ≤ a) : a ∉ X.fs := fun hb => by
  obtain ⟨_, o, ho, _⟩ := I.ok.funs.mem hb
  exact absurd (Nat.lt_of_lt_of_le (Heap.lt_size ho) (Nat.le_trans I.sz h)) (Nat.lt_irrefl _)
theorem Inv.cne (I : Inv X pins σ H s) : ∀ x c, X.env.cells.lookup x = some c → c ≠ X.env.locals := fun x c e z => by
  obtain ⟨v, o, ho, hd⟩ := I.cell x c e
  obtain ⟨m, ⟨o', es, ep, ho', hd', _⟩, _⟩ := I.loc
  rw [z, ho'] at ho; cases ho; rw [hd'] at hd; cases hd
theorem Inv.funs (I : Inv X pins σ H s) : s.heap.FunFrames X.base X.outer := by
  have all : ∀ (l : List Env), (∀ b ∈ frs l, b ∈ X.fs) → X.s_0.heap.FunFrames X.base l → s.heap.FunFrames X.base l := by
    intro l
    induction l with
    | nil => intro _ _; trivial
    | cons env r ih =>
      intro hs hl
      obtain ⟨hk, ⟨L, o, hf, hn, ho, hd⟩, hr⟩ := hl
      have hL : L ∈ X.fs := hs L (by unfold frs; rw [List.filterMap_cons, hf]; exact List.mem_cons_self)
      obtain ⟨sl, e⟩ := I.base.slot L o ho (I.ok.frf L hL) hL fun z => I.ok.exfs L z hL
      exact ⟨hk, ⟨L, _, hf, hn, e, hd⟩, ih (fun b hb => hs b (by unfold frs; rw [List.filterMap_cons, hf]; exact List.mem_cons_of_mem _ hb)) hr⟩
  exact all X.outer (fun _ hb => hb) I.ok.funs

/-- the frames that run, for a call -/
theorem Inv.stack (I : Inv X pins σ H s) : s.heap.FunFrames X.base X.stack := by
  rcases I.ok.stk with e | ⟨e, hf⟩
  · rw [e]; exact I.funs
  · rw [e]
    obtain ⟨m, hn, _⟩ := I.loc
    refine .cons (by rw [I.ok.kind]; decide) hf hn ?_ I.funs
    exact Heap.get?_none_of_le (Nat.le_trans I.ok.bsz I.ok.above)
theorem Inv.stkSub (I : Inv X pins σ H s) : ∀ b ∈ frs X.stack, b ∈ X.env.locals :: X.fs := fun b hb => by
  rcases I.ok.stk with e | ⟨e, hf⟩
  · rw [e] at hb; exact List.mem_cons_of_mem _ hb
  · rw [e] at hb
    unfold frs at hb
    rw [List.filterMap_cons, hf] at hb
    exact hb
theorem Inv.stkFree (I : Inv X pins σ H s) : ∀ b ∈ frs X.stack, H b = none := fun b hb => by
  rcases List.mem_cons.mp (I.stkSub b hb) with e | hb
  · rw [e]; exact I.free
  · obtain ⟨_, o, ho, _⟩ := I.ok.funs.mem hb
    exact I.base.free b o ho (I.ok.frf b hb) fun z => I.ok.exfs b z hb

/-- THE STEP: the untracked objects but the frame and the records at ch are kept (the callers' frames up to slots), the frame's map is kept, the new abstract heap is held -/
theorem Inv.step {g' : Array GenState} {t' : Nat} {d' : Drawn} {ch : List Addr} (I : Inv X pins σ H s)
    (hch : ∀ b ∈ ch, (b ∈ X.ex ∨ X.s_0.heap.objs.size ≤ b) ∧ b ≠ X.env.locals ∧ (∀ x c, X.env.cells.lookup x = some c → c ≠ b) ∧ ∀ p ∈ X.pn ++ pins, p.1 ≠ b)
    (keep : ∀ b o, b ≠ X.env.locals → b ∉ X.fs → b ∉ ch → s.heap.get? b = some o → H b = none → h'.get? b = some o)
    (slot : ∀ b o, b ≠ X.env.locals → b ∈ X.fs → b ∉ ch → s.heap.get? b = some o → H b = none → ∃ sl, h'.get? b = some { o with slots := sl }) (free : ∀ b o, b ∉ ch → s.heap.get? b = some o → H b = none → H' b = none)
    (there : ∀ b o, b ∉ ch → s.heap.get? b = some o → ∃ o', h'.get? b = some o')
    (tups : ∀ b xs, H b = some (.tup xs) → H' b = some (.tup xs)) (frzs : ∀ b o u, H b = some (.frz o u) → H' b = some (.frz o u)) (tbls : ∀ b ps, H b = some (.tbl ps) → ∃ more, H' b = some (.tbl (ps ++ more)))
    (ns : ∀ m, s.heap.Ns X.env.locals m → h'.Ns X.env.locals m) (hok : HOk X.prog X.w H' h') (hg : AllBare g') :
    Inv X pins σ H' { s with heap := h', gens := g', drawn := d', toks := t' } := by
  have neL : ∀ b o, X.s_0.heap.get? b = some o → b ≠ X.env.locals := fun b o e => Nat.ne_of_lt (Nat.lt_of_lt_of_le (Heap.lt_size e) I.ok.above)
  have neC : ∀ b o, X.s_0.heap.get? b = some o → b ∉ X.ex → b ∉ ch := fun b o e hx hb => by
    rcases (hch b hb).1 with z | z
    · exact hx z
    · exact absurd (Nat.lt_of_lt_of_le (Heap.lt_size e) z) (Nat.lt_irrefl _)
  have cellK : ∀ x c, X.env.cells.lookup x = some c → ∀ v, s.heap.IsCell c v → h'.IsCell c v := fun x c e v ⟨o, ho, hd⟩ => by
    have nch : c ∉ ch := fun z => (hch c z).2.2.1 x c e rfl
    by_cases hc : c ∈ X.fs
    · obtain ⟨sl, q⟩ := slot c o (I.cne x c e) hc nch ho (I.freeC x c e)
      exact ⟨_, q, hd⟩
    · exact ⟨o, keep c o (I.cne x c e) hc nch ho (I.freeC x c e), hd⟩
  refine ⟨I.ok, I.os, hg, ⟨fun b o e n hb hx => ?_, fun b o e n hb hx => ?_, fun b o e n hx => ?_, fun b o e hx => ?_, fun b xs e => tups b xs (I.base.tups b xs e), fun b o xs e => frzs b o xs (I.base.frzs b o xs e), fun b ps e => ?_⟩, ?_, fun x c e => ?_, ?_, fun x c e => ?_, fun p hp => ?_, hok, I.len⟩
  · exact keep b o (neL b o e) hb (neC b o e hx) (I.base.keep b o e n hb hx) (I.base.free b o e n hx)
  · obtain ⟨sl, e1⟩ := I.base.slot b o e n hb hx
    obtain ⟨sl', e2⟩ := slot b _ (neL b o e) hb (neC b o e hx) e1 (I.base.free b o e n hx)
    exact ⟨sl', e2⟩
  · obtain ⟨o', e1⟩ := I.base.there b o e hx
    exact free b o' (neC b o e hx) e1 (I.base.free b o e n hx)
  · obtain ⟨o', e1⟩ := I.base.there b o e hx
    exact there b o' (neC b o e hx) e1
  · obtain ⟨m1, e1⟩ := I.base.tbls b ps e
    obtain ⟨m2, e2⟩ := tbls b _ e1
    exact ⟨m1 ++ m2, by rw [e2, Array.append_assoc]⟩
  · obtain ⟨m, hn, hl⟩ := I.loc
    refine ⟨m, ns m hn, fun i x v e1 e2 e3 => ?_⟩
    obtain ⟨u, r, l⟩ := hl i x v e1 e2 e3
    refine ⟨u, r, ?_⟩
    rcases l with l | ⟨k, c, e, z⟩
    · exact .inl l
    · exact .inr ⟨k, c, e, cellK x c e _ z⟩
  · obtain ⟨v, z⟩ := I.cell x c e
    exact ⟨v, cellK x c e v z⟩
  · obtain ⟨m, ⟨o, _, _, ho, _⟩, _⟩ := I.loc
    exact free _ o (fun z => (hch _ z).2.1 rfl) ho I.free
  · obtain ⟨v, o, ho, hd⟩ := I.cell x c e
    exact free c o (fun z => (hch c z).2.2.1 x c e rfl) ho (I.freeC x c e)
  · obtain ⟨e, n, ne, nf, d⟩ := I.pin p hp
    have nch : p.1 ∉ ch := fun z => (hch p.1 z).2.2.2 p hp rfl
    exact ⟨keep p.1 p.2 ne nf nch e n, free p.1 p.2 nch e n, ne, nf, d⟩
/-- .. where the frame's own object is kept too -/
theorem Inv.un {t' : Nat} (I : Inv X pins σ H s) (u : Un X.fs [] H H' s.heap h') (hok : HOk X.prog X.w H' h') : Inv X pins σ H' { s with heap := h', toks := t' } := by
  obtain ⟨m, ⟨o, es, ep, ho, r⟩, _⟩ := id I.loc
  obtain ⟨sl, hL⟩ := u.any ho I.free (by simp)
  exact I.step (g' := s.gens) (d' := s.drawn) (ch := []) (fun _ z => nomatch z) (fun b o _ hb _ e n => u.keep b o e n hb (by simp)) (fun b o _ hb _ e n => u.slot b o e n hb (by simp)) (fun b o _ e n => u.free b o e n (by simp)) (fun b o _ e => u.there b o e (by simp)) u.tups u.frzs u.tbls (fun m' hm => by
    obtain ⟨o', es', ep', ho', r'⟩ := hm
    rw [ho] at ho'; cases ho'
    exact ⟨_, es', ep', hL, r'⟩) hok I.bare
/-- behind a call (or a comprehension's block): the slots of this frame may have changed too, the records at ch may have turned -/
theorem Inv.call {g' : Array GenState} {t' : Nat} {d' : Drawn} {ch : List Addr} (I : Inv X pins σ H s) (u : Un (frs X.stack) ch H H' s.heap h') (hok : HOk X.prog X.w H' h') (hg : AllBare g')
    (hch : ∀ b ∈ ch, (b ∈ X.ex ∨ X.s_0.heap.objs.size ≤ b) ∧ b ≠ X.env.locals ∧ (∀ x c, X.env.cells.lookup x = some c → c ≠ b) ∧ ∀ p ∈ X.pn ++ pins, p.1 ≠ b) :
    Inv X pins σ H' { s with heap := h', gens := g', drawn := d', toks := t' } := by
  obtain ⟨m, ⟨o, es, ep, ho, r⟩, _⟩ := id I.loc
  obtain ⟨sl, hL⟩ := u.any ho I.free fun z => (hch _ z).2.1 rfl
  exact I.step (ch := ch) hch (fun b o hL hb hc e n => u.keep b o e n (fun z => (List.mem_cons.mp (I.stkSub b z)).elim hL hb) hc) (fun b o _ _ hc e n => u.any e n hc) (fun b o hc e n => u.free b o e n hc) (fun b o hc e => u.there b o e hc) u.tups u.frzs u.tbls (fun m' hm => by
    obtain ⟨o', es', ep', ho', r'⟩ := hm
    rw [ho] at ho'; cases ho'
    exact ⟨_, es', ep', hL, r'⟩) hok hg
/-- an untracked record of ours (an iterator) has turned -/
theorem Inv.turned {t' : Nat} {it : Addr} (I : Inv X pins σ H s) (k : ∀ b o, b ≠ it → s.heap.get? b = some o → h'.get? b = some o) (hn : H it = none) (hL : it ≠ X.env.locals)
    (h1 : it ∈ X.ex ∨ X.s_0.heap.objs.size ≤ it) (h2 : ∀ x c, X.env.cells.lookup x = some c → c ≠ it) (h3 : ∀ p ∈ X.pn ++ pins, p.1 ≠ it) : Inv X pins σ H { s with heap := h', toks := t' } := by
  have nit : ∀ b u, H b = some u → b ≠ it := fun b u e z => by rw [z, hn] at e; cases e
  refine I.step (g' := s.gens) (d' := s.drawn) (ch := [it]) (fun b hb => ?_) (fun b o _ _ hc e _ => k b o (fun z => hc (by simp [z])) e) (fun b o _ _ hc e _ => ⟨o.slots, k b o (fun z => hc (by simp [z])) e⟩) (fun _ _ _ _ n => n)
    (fun b o hc e => ⟨o, k b o (fun z => hc (by simp [z])) e⟩) (fun _ _ e => e) (fun _ _ _ e => e) (fun b ps e => ⟨#[], by rw [e]; simp⟩) (fun m hm => ?_) (fun b u e => ?_) I.bare
  · have e : b = it := by simpa using hb
    subst e
    exact ⟨h1, hL, h2, h3⟩
  · obtain ⟨o, es, ep, ho, r⟩ := hm
    exact ⟨o, es, ep, k _ o (Ne.symm hL) ho, r⟩
  · refine (I.hok b u e).stay (fun c v hc q => k c v ?_ q) (fun _ q => q) fun _ _ q => q
    rcases hc with z | z
    · rw [z]; exact nit b u e
    · exact nit c _ z
theorem Inv.tok (I : Inv X pins σ H s) (t : Nat) : Inv X pins σ H { s with toks := t } := I.un (h' := s.heap) (t' := t) Un.refl I.hok
/-- all objects kept -/
theorem Inv.kept {t' : Nat} (I : Inv X pins σ H s) (k : ∀ b u, s.heap.get? b = some u → h'.get? b = some u) : Inv X pins σ H { s with heap := h', toks := t' } := I.un (Un.kept k) (I.hok.kept k)
/-- a new object laid and tracked -/
theorem Inv.laid {a : Addr} {o : HO} {t' : Nat} (I : Inv X pins σ H s) (k : ∀ b u, s.heap.get? b = some u → h'.get? b = some u) (hp : s.heap.objs.size ≤ a) (new : ObjOk X.prog X.w (upd H a o) h' a o) :
    Inv X pins σ (upd H a o) { s with heap := h', toks := t' } := I.un (Un.laid k hp (I.hok.fresh hp)) (I.hok.laid k hp new)
/-- an object written -/
theorem Inv.write {x e : Addr} {o : HO} {t' : Nat} (I : Inv X pins σ H s) (mu : Mut (H x)) (he : e = x ∨ H e = some (.own x)) (k : ∀ b u, b ≠ e → s.heap.get? b = some u → h'.get? b = some u) (heo : ∃ u, h'.get? e = some u)
    (new : ObjOk X.prog X.w (upd H x o) h' x o) : Inv X pins σ (upd H x o) { s with heap := h', toks := t' } := I.un (Un.write mu he k heo) (I.hok.write mu he k heo new)
/-- forgetting slots, pins -/
theorem Inv.weak {σ' : List (Option V)} (I : Inv X pins σ H s) (hl : σ'.length = σ.length) (w : ∀ (i : Nat) v, σ'[i]? = some (some v) → σ[i]? = some (some v)) : Inv X pins σ' H s :=
  ⟨I.ok, I.os, I.bare, I.base, let ⟨m, hn, hl'⟩ := I.loc; ⟨m, hn, fun i x v e1 e2 e3 => hl' i x v e1 (w i v e2) e3⟩, I.cell, I.free, I.freeC, I.pin, I.hok, hl.trans I.len⟩
theorem Inv.pins_of {pins' : List (Addr × Obj)} (I : Inv X pins σ H s) (h : ∀ p ∈ pins', s.heap.get? p.1 = some p.2 ∧ H p.1 = none ∧ p.1 ≠ X.env.locals ∧ p.1 ∉ X.fs ∧ ∀ v, p.2.data ≠ .cell v) : Inv X pins' σ H s :=
  ⟨I.ok, I.os, I.bare, I.base, I.loc, I.cell, I.free, I.freeC, fun p hp => (List.mem_append.mp hp).elim (fun z => I.pin p (List.mem_append_left _ z)) (h p), I.hok, I.len⟩

theorem nodup_ix {N : List Str} (hN : N.Nodup) {i j : Nat} {x : Str} (a : N[i]? = some x) (b : N[j]? = some x) : i = j := by
  obtain ⟨h1, e1⟩ := List.getElem?_eq_some_iff.mp a
  obtain ⟨h2, e2⟩ := List.getElem?_eq_some_iff.mp b
  exact (List.getElem_inj hN).mp (e1.trans e2.symm)

/-- a name is stored; what changed -/
theorem store_ok2 {M : Model} {A : Around} {E : Value → Shared → Prop} {i : Nat} {x : Str} {v : V} {u : Value} {Q : Unit → Shared → Prop} (I : Inv X pins σ H s) (hN : X.N.Nodup) (hi : X.N[i]? = some x) (hx : Loc X.env.scope x) (r : RelV v u)
    (h : ∀ s', Inv X pins (σ.set i (some v)) H s' → (∃ a, Heap.SameBut a s.heap s'.heap ∧ (a = X.env.locals ∨ X.env.cells.lookup x = some a)) → Q () s') (hf : X.fn x = true ∨ X.env.scope.names.lookup x = some .local := by first | exact .inl rfl | exact .inr rfl | assumption) : wpAny M A (storeName X.env x u) Q E s := by
  obtain ⟨m, hn, hl⟩ := id I.loc
  have hcls : (X.env.scope.kind == .class || (X.env.scope.kind == .module && X.env.locals != X.env.globals)) = false := by rw [I.ok.kind]; rfl
  have hiσ : i < σ.length := by rw [I.len]; exact (List.getElem?_eq_some_iff.mp hi).1
  have cne := I.cne
  have tracked : ∀ {a : Addr} {h' : Heap}, (∃ o, s.heap.get? a = some o ∧ H a = none) → Heap.SameBut a s.heap h' → HOk X.prog X.w H h' := fun {a h'} ha hs b ob e => by
    obtain ⟨_, _, hfree⟩ := ha
    refine (I.hok b ob e).stay (fun c w' hc q => (hs.2 c ?_).trans q) (fun _ q => q) fun _ _ q => q
    rintro rfl
    rcases hc with rfl | hc
    · rw [hfree] at e; cases e
    · rw [hfree] at hc; cases hc
  rcases hx with hk | hk
  · refine wpAny_storeName_local hk hn (fun h' hn' hs => ?_) hcls
    obtain ⟨oL, _, _, hoL, _⟩ := id hn
    refine h _ ⟨I.ok, I.os, I.bare, ⟨fun b o e n hb hx => ?_, fun b o e n hb hx => ?_, I.base.free, fun b o e hx => ?_, I.base.tups, I.base.frzs, I.base.tbls⟩, ⟨_, hn', fun j y v' e1 e2 e3 => ?_⟩, fun y c e => ?_, I.free, I.freeC, fun p hp => ?_, tracked ⟨oL, hoL, I.free⟩ hs, by simpa using I.len⟩ ⟨_, hs, .inl rfl⟩
    · exact (hs.2 b (Nat.ne_of_lt (Nat.lt_of_lt_of_le (Heap.lt_size e) I.ok.above))).trans (I.base.keep b o e n hb hx)
    · obtain ⟨sl, e1⟩ := I.base.slot b o e n hb hx
      exact ⟨sl, (hs.2 b (Nat.ne_of_lt (Nat.lt_of_lt_of_le (Heap.lt_size e) I.ok.above))).trans e1⟩
    · obtain ⟨o', e1⟩ := I.base.there b o e hx
      exact ⟨o', (hs.2 b (Nat.ne_of_lt (Nat.lt_of_lt_of_le (Heap.lt_size e) I.ok.above))).trans e1⟩
    · by_cases hj : j = i
      · subst hj
        rw [hi] at e1; cases e1
        rw [List.getElem?_set_self hiσ] at e2
        cases e2
        exact ⟨u, r, .inl ⟨hk, by simp⟩⟩
      · rw [List.getElem?_set_ne (Ne.symm hj)] at e2
        obtain ⟨u', r', q⟩ := hl j y v' e1 e2 e3
        refine ⟨u', r', ?_⟩
        rcases q with ⟨k, e⟩ | ⟨k, c, e, z⟩
        · refine .inl ⟨k, ?_⟩
          have : y ≠ x := fun e => hj (nodup_ix hN e1 (e ▸ hi))
          simp [this, e]
        · exact .inr ⟨k, c, e, z.sameBut hs (cne y c e)⟩
    · obtain ⟨w', z⟩ := I.cell y c e
      exact ⟨w', z.sameBut hs (cne y c e)⟩
    · obtain ⟨e, n, ne, nf, d⟩ := I.pin p hp
      exact ⟨(hs.2 p.1 ne).trans e, n, ne, nf, d⟩
  · have hfn : X.fn x = true := by
      rcases hf with z | z
      · exact z
      · rw [z] at hk; cases hk
    obtain ⟨c, hc⟩ := I.ok.has x (.inl hk)
    obtain ⟨w', z⟩ := I.cell x c hc
    refine wpAny_storeName_cell I.ok.kind hk hc z (fun h' hc' hs => ?_)
    obtain ⟨oc, hoc, hocd⟩ := id z
    refine h { s with heap := h' } ⟨I.ok, I.os, I.bare, ⟨fun b o e n hb hx => ?_, fun b o e n hb hx => ?_, I.base.free, fun b o e hx => ?_, I.base.tups, I.base.frzs, I.base.tbls⟩, ⟨m, hn.sameBut hs (Ne.symm (cne x c hc)), fun j y v' e1 e2 e3 => ?_⟩, fun y c' e => ?_, I.free, I.freeC, fun p hp => ?_, tracked ⟨oc, hoc, I.freeC x c hc⟩ hs, by simpa using I.len⟩ ⟨c, hs, .inr hc⟩
    · exact (hs.2 b (Nat.ne_of_lt (Nat.lt_of_lt_of_le (Heap.lt_size e) (I.ok.cab x c hfn hc)))).trans (I.base.keep b o e n hb hx)
    · obtain ⟨sl, e1⟩ := I.base.slot b o e n hb hx
      exact ⟨sl, (hs.2 b (Nat.ne_of_lt (Nat.lt_of_lt_of_le (Heap.lt_size e) (I.ok.cab x c hfn hc)))).trans e1⟩
    · obtain ⟨o', e1⟩ := I.base.there b o e hx
      exact ⟨o', (hs.2 b (Nat.ne_of_lt (Nat.lt_of_lt_of_le (Heap.lt_size e) (I.ok.cab x c hfn hc)))).trans e1⟩
    · by_cases hj : j = i
      · subst hj
        rw [hi] at e1; cases e1
        rw [List.getElem?_set_self hiσ] at e2
        cases e2
        exact ⟨u, r, .inr ⟨.inl hk, c, hc, hc'⟩⟩
      · rw [List.getElem?_set_ne (Ne.symm hj)] at e2
        obtain ⟨u', r', q⟩ := hl j y v' e1 e2 e3
        refine ⟨u', r', ?_⟩
        rcases q with q | ⟨k, c', e, z'⟩
        · exact .inl q
        · refine .inr ⟨k, c', e, z'.sameBut hs ?_⟩
          rintro rfl
          exact hj (nodup_ix hN e1 (I.ok.inj _ _ _ e hc ▸ hi))
    · by_cases hcc : c' = c
      · subst hcc; exact ⟨_, hc'⟩
      · obtain ⟨w2, z2⟩ := I.cell y c' e
        exact ⟨w2, z2.sameBut hs hcc⟩
    · obtain ⟨e, n, ne, nf, d⟩ := I.pin p hp
      refine ⟨(hs.2 p.1 ?_).trans e, n, ne, nf, d⟩
      intro q
      rw [q, hoc] at e
      have q' : oc = p.2 := Option.some.inj e
      exact d w' (by rw [← q']; exact hocd)
theorem store_ok {M : Model} {A : Around} {E : Value → Shared → Prop} {i : Nat} {x : Str} {v : V} {u : Value} {Q : Unit → Shared → Prop} (I : Inv X pins σ H s) (hN : X.N.Nodup) (hi : X.N[i]? = some x) (hx : Loc X.env.scope x) (r : RelV v u)
    (h : ∀ s', Inv X pins (σ.set i (some v)) H s' → Q () s') (hf : X.fn x = true ∨ X.env.scope.names.lookup x = some .local := by first | exact .inl rfl | exact .inr rfl | assumption) : wpAny M A (storeName X.env x u) Q E s :=
  store_ok2 I hN hi hx r (fun s' I' _ => h s' I') hf
/-- behind a call or a block, the state as it is -/
theorem Inv.call' {s' : Shared} {ch : List Addr} (I : Inv X pins σ H s) (ho : s'.os = s.os) (u : Un (frs X.stack) ch H H' s.heap s'.heap) (hok : HOk X.prog X.w H' s'.heap) (hg : AllBare s'.gens)
    (hch : ∀ b ∈ ch, (b ∈ X.ex ∨ X.s_0.heap.objs.size ≤ b) ∧ b ≠ X.env.locals ∧ (∀ x c, X.env.cells.lookup x = some c → c ≠ b) ∧ ∀ p ∈ X.pn ++ pins, p.1 ≠ b) : Inv X pins σ H' s' := by
  obtain ⟨h', g', d', t', o'⟩ := s'
  have e : o' = s.os := ho
  subst e
  exact I.call (g' := g') (t' := t') (d' := d') u hok hg hch
end

/-! ### the judgements -/
/-- an exception: its class, its own dict's address (where it has one), the abstract heap behind it -/
abbrev XK := Value → Option Addr → Hp → Prop
abbrev St := List (Option V)
abbrev VK := V → Hp → Prop
/-- an expression's reading; a test's; an argument list's -/
abbrev TE := St → Hp → VK → Prop
abbrev TT := St → Hp → (Bool → Hp → Prop) → Prop
abbrev TA := St → Hp → (List V → Hp → Prop) → Prop
/-- what is wanted behind a statement -/
structure Ends where
  nx : St → Hp → Prop
  rt : VK
  bk : St → Hp → Prop := fun _ _ => False
  ct : St → Hp → Prop := fun _ _ => False
abbrev TS := Ends → St → Hp → Prop

def EP (X : Cx) (pins : List (Addr × Obj)) (σ : St) (Q : VK) (u : Value) (s' : Shared) : Prop := ∃ v H', Inv X pins σ H' s' ∧ RelV v u ∧ Q v H'
def TP (X : Cx) (pins : List (Addr × Obj)) (σ : St) (Q : Bool → Hp → Prop) (b : Bool) (s' : Shared) : Prop := ∃ H', Inv X pins σ H' s' ∧ Q b H'
def AP (X : Cx) (pins : List (Addr × Obj)) (σ : St) (Q : List V → Hp → Prop) (us : List Value) (s' : Shared) : Prop := ∃ vs H', Inv X pins σ H' s' ∧ Vals vs us ∧ Q vs H'
def SP (X : Cx) (pins : List (Addr × Obj)) (D : Ends) (f : Flow) (s' : Shared) : Prop :=
  match f with
  | .next => ∃ σ' H', Inv X pins σ' H' s' ∧ D.nx σ' H'
  | .brk => ∃ σ' H', Inv X pins σ' H' s' ∧ D.bk σ' H'
  | .cont => ∃ σ' H', Inv X pins σ' H' s' ∧ D.ct σ' H'
  | .ret u => ∃ v σ' H', Inv X pins σ' H' s' ∧ RelV v u ∧ D.rt v H'

def PE (X : Cx) (e : Expr) (t : TE) : Prop :=
  ∀ (pins : List (Addr × Obj)) (s : Shared) (σ : St) (H : Hp) (Q : VK), Inv X pins σ H s → t σ H Q → wpAny (model X.prog X.w) X.A (eval e X.env) (EP X pins σ Q) X.xe s
def PT (X : Cx) (e : Expr) (t : TT) : Prop :=
  ∀ (pins : List (Addr × Obj)) (s : Shared) (σ : St) (H : Hp) (Q : Bool → Hp → Prop), Inv X pins σ H s → t σ H Q → wpAny (model X.prog X.w) X.A (isTrue e X.env (eval e X.env)) (TP X pins σ Q) X.xe s
/-- a test whatever its 'whole' is (and, or) -/
def PW (X : Cx) (e : Expr) (t : TT) : Prop :=
  ∀ (whole : Sem Value) (pins : List (Addr × Obj)) (s : Shared) (σ : St) (H : Hp) (Q : Bool → Hp → Prop), Inv X pins σ H s → t σ H Q → wpAny (model X.prog X.w) X.A (isTrue e X.env whole) (TP X pins σ Q) X.xe s
theorem PW.pt {X : Cx} {e : Expr} {t : TT} (h : PW X e t) : PT X e t := h _
/-- an argument list (no star), from the left -/
def PA (X : Cx) (es : List Expr) (t : TA) : Prop :=
  ∀ (pos : Pos) (pins : List (Addr × Obj)) (s : Shared) (σ : St) (H : Hp) (Q : List V → Hp → Prop), Inv X pins σ H s → t σ H Q → wpAny (model X.prog X.w) X.A (spliced (backTo pos (starEach es X.env))) (AP X pins σ Q) X.xe s
def PS (X : Cx) (st : Stmt) (t : TS) : Prop :=
  ∀ (pins : List (Addr × Obj)) (s : Shared) (σ : St) (H : Hp) (D : Ends), Inv X pins σ H s → t D σ H → wpAny (model X.prog X.w) X.A (exec st X.env) (SP X pins D) X.xe s
def PSs (X : Cx) (st : List Stmt) (t : TS) : Prop :=
  ∀ (pins : List (Addr × Obj)) (s : Shared) (σ : St) (H : Hp) (D : Ends), Inv X pins σ H s → t D σ H → wpAny (model X.prog X.w) X.A (execs st X.env) (SP X pins D) X.xe s
/-- weaken the end -/
theorem thn {α : Type} {t : Sem α} {Q Q' : α → Shared → Prop} {M : Model} {A : Around} {E : Value → Shared → Prop} {s : Shared} (h : wpAny M A t Q E s) (hQ : ∀ a s, Q a s → Q' a s) : wpAny M A t Q' E s := wpAny_mono h hQ fun _ _ x => x
end L2

namespace L2
open PySem PySem.Spec PyProof.Rows
section
variable {X : Cx}

/-- two expressions in a row -/
theorem bin {a b : Expr} {ta tb : TE} (ha : PE X a ta) (hb : PE X b tb) {pins : List (Addr × Obj)} {s : Shared} {σ : St} {H : Hp} {R : V → V → Hp → Prop} (I : Inv X pins σ H s) (h : ta σ H fun x H1 => tb σ H1 fun y H2 => R x y H2)
    {α : Type} {Q : α → Shared → Prop} {f : Value → Value → Sem α}
    (hf : ∀ v u s2 x y H2, Inv X pins σ H2 s2 → RelV x v → RelV y u → R x y H2 → wpAny (model X.prog X.w) X.A (f v u) Q X.xe s2) :
    wpAny (model X.prog X.w) X.A (eval a X.env) (fun v s₁ => wpAny (model X.prog X.w) X.A (eval b X.env) (fun u s₂ => wpAny (model X.prog X.w) X.A (f v u) Q X.xe s₂) X.xe s₁) X.xe s := by
  refine thn (ha pins s σ H _ I h) fun v s1 ⟨x, H1, I1, r1, q1⟩ => ?_
  refine thn (hb pins s1 σ H1 _ I1 q1) fun u s2 ⟨y, H2, I2, r2, q2⟩ => ?_
  exact hf v u s2 x y H2 I2 r1 r2 q2

/-! ### names and constants -/
def tVar (i : Nat) : TE := fun σ H Q => ∃ v, σ[i]? = some (some v) ∧ Q v H
def tC (v : V) : TE := fun _ H Q => Q v H
theorem pe_var {i : Nat} {x : Str} {pos : Pos} (hN : X.N[i]? = some x) (hv : Vis X.env.scope x) (hd : (x == ("__debug__" : Str)) = false := by decide) (hcd : (x == ("__classdict__" : Str)) = false := by decide) : PE X (.Name x pos) (tVar i) := by
  intro pins s σ H Q I h
  obtain ⟨v, e, h⟩ := h
  obtain ⟨m, hn, hl⟩ := I.loc
  obtain ⟨u, r, l⟩ := hl i x v hN e hv
  have fin : EP X pins σ Q u s := ⟨v, H, I, r, h⟩
  rcases l with ⟨hk, hm⟩ | ⟨hk, c, hc, hcell⟩
  · exact wpAny_Name (wpAny_loadName_local I.ok.kind hk hn hm fin) hd
  · rcases hk with hk | hk
    · exact wpAny_Name (wpAny_loadName_cell I.ok.kind hk hc hcell fin) hd
    · exact wpAny_Name (wpAny_loadName_free I.ok.kind hk hc hcell fin hcd) hd
theorem pe_int {i j pos} : PE X (.Constant (.int i) j pos) (tC (.int i)) := fun _ _ _ H _ I h => wpAny_Constant_int ⟨.int i, H, I.tok _, ⟨_, rfl⟩, h⟩
theorem pe_bl {b j pos} : PE X (.Constant (.bool b) j pos) (tC (.bl b)) := fun _ _ _ H _ I h => Constant_bool ⟨.bl b, H, I, rfl, h⟩

/-- a global name of the def -/
def Gl (X : Cx) (x : Str) : Prop := X.env.kindOf x = some .globalImplicit
theorem ld_glob {E : Value → Shared → Prop} {pins : List (Addr × Obj)} {s : Shared} {σ : St} {H : Hp} {x : Str} {u : Value} {pos : Pos} {Q : Value → Shared → Prop} (I : Inv X pins σ H s) (hg : Gl X x) (hm : X.mg x = some u) (h : Q u s)
    (hd : (x == ("__debug__" : Str)) = false := by decide) : wpAny (model X.prog X.w) X.A (eval (.Name x pos) X.env) Q E s :=
  Calls.Name_function_global I.ok.kind hg (Calls.loadGlobal_global (by rw [I.ok.glob]; exact I.mod.glob.keeps I.bk) hm h) hd
theorem ld_blt {E : Value → Shared → Prop} {pins : List (Addr × Obj)} {s : Shared} {σ : St} {H : Hp} {x : Str} {u : Value} {pos : Pos} {Q : Value → Shared → Prop} (I : Inv X pins σ H s) (hg : Gl X x) (hm : X.mg x = none) (hv : bootBuiltins x = some u) (h : Q u s)
    (hn : x ≠ "__name__" := by decide) (hd : (x == ("__debug__" : Str)) = false := by decide) : wpAny (model X.prog X.w) X.A (eval (.Name x pos) X.env) Q E s := by
  obtain ⟨mb, h1, h2⟩ := I.mod.blt
  exact Calls.Name_function_global I.ok.kind hg (Calls.loadGlobal_builtin (by rw [I.ok.glob]; exact I.mod.glob.keeps I.bk) hm (by rw [I.ok.blt]; exact h1.keeps I.bk) ((h2 x hn).trans hv) h) hd
/-- a module's constant, a class, a function, as a value -/
theorem pe_glob {x : Str} {v : V} {u : Value} {pos : Pos} (hg : Gl X x) (hm : X.mg x = some u) (r : RelV v u) (hd : (x == ("__debug__" : Str)) = false := by decide) : PE X (.Name x pos) (tC v) :=
  fun _ _ _ H _ I h => ld_glob I hg hm ⟨v, H, I, r, h⟩ hd

/-! ### arithmetic -/
/-- two ints -/
def t2I (ta tb : TE) (k : Int → Int → Hp → Prop) : St → Hp → Prop := fun σ H => ta σ H fun x H1 => tb σ H1 fun y H2 => ∃ i j, x = .int i ∧ y = .int j ∧ k i j H2
variable {a b : Expr} {ta tb : TE} {pos : Pos}

/-! ### comparisons -/
def PC (X : Cx) (op : CmpOp) (a b : Expr) (t : TE) : Prop :=
  ∀ (pins : List (Addr × Obj)) (s : Shared) (σ : St) (H : Hp) (Q : VK), Inv X pins σ H s → t σ H Q →
    wpAny (model X.prog X.w) X.A (eval a X.env) (fun v s₁ => wpAny (model X.prog X.w) X.A (eval b X.env) (fun u s₂ => wpAny (model X.prog X.w) X.A (compareOp op v u) (EP X pins σ Q) X.xe s₂) X.xe s₁) X.xe s
def tCmp (p : Int → Int → Bool) (ta tb : TE) : TE := fun σ H Q => t2I ta tb (fun i j H2 => Q (.bl (p i j)) H2) σ H
abbrev tLt : TE → TE → TE := tCmp fun i j => decide (i < j)
abbrev tLe : TE → TE → TE := tCmp fun i j => decide (i ≤ j)
abbrev tGt : TE → TE → TE := tCmp fun i j => decide (j < i)
abbrev tGe : TE → TE → TE := tCmp fun i j => decide (j ≤ i)
abbrev tEqI : TE → TE → TE := tCmp fun i j => decide (i = j)
abbrev tNeI : TE → TE → TE := tCmp fun i j => !decide (i = j)
/-- a comparison as a value, as a test -/
def tB (t : TE) : TT := fun σ H Q => t σ H fun x H1 => ∃ c, x = .bl c ∧ Q c H1
theorem pe_cmp {op : CmpOp} {t : TE} (h : PC X op a b t) (h1 : behindInMarks op b = false := by first | exact nobehind _ (by decide) (by decide) | rfl) : PE X (.Compare a [op] [b] pos) t := fun pins s σ H Q I hw => wpAny_Compare1 (h pins s σ H Q I hw) h1
theorem pt_cmp {op : CmpOp} {t : TE} (h : PC X op a b t) (h1 : behindInMarks op b = false := by first | exact nobehind _ (by decide) (by decide) | rfl) : PT X (.Compare a [op] [b] pos) (tB t) := by
  intro pins s σ H Q I hw
  refine wpAny_isTrue_Compare1 (thn (h pins s σ H _ I hw) fun v s1 h1 => thn h1 fun u s2 h2 => thn h2 fun c s3 ⟨x, H1, I1, r1, q1⟩ => ?_) h1
  obtain ⟨d, rfl, q⟩ := q1
  cases r1
  exact wpAny_truthy_bool ⟨H1, I1, q⟩
/-- an expression whose value is a bool, as a test -/
theorem pt_val {e : Expr} {t : TE} (h : PE X e t) (he : ∀ whole, isTrue e X.env whole = (do let v ← whole; standAt e.pos; holding [v] (truthy v)) := by intro _; rfl) : PT X e (tB t) := by
  intro pins s σ H Q I hw
  refine isTrue_plain (thn (h pins s σ H _ I hw) fun v s1 ⟨x, H1, I1, r1, q1⟩ => ?_) (he _)
  obtain ⟨d, rfl, q⟩ := q1
  cases r1
  exact wpAny_truthy_bool ⟨H1, I1, q⟩

/-! ### and, or, not -/
variable {tA tB' : TT} {rest : List Expr}
def tAnd (t u : TT) : TT := fun σ H Q => t σ H fun c H1 => if c = true then u σ H1 Q else Q false H1
def tOr (t u : TT) : TT := fun σ H Q => t σ H fun c H1 => if c = true then Q true H1 else u σ H1 Q
def tNot (t : TT) : TT := fun σ H Q => t σ H fun c H1 => Q (!c) H1
theorem pw_and1 (ha : PT X a tA) : PW X (.BoolOp .And [a] pos) tA := by
  intro wh pins s σ H Q I h
  refine isTrue_and (thn (ha pins s σ H Q I h) fun c s1 e => ?_)
  cases c with
  | true => exact isTrue_and_nil e
  | false => exact e
theorem pw_or1 (ha : PT X a tA) : PW X (.BoolOp .Or [a] pos) tA := by
  intro wh pins s σ H Q I h
  refine isTrue_or (thn (ha pins s σ H Q I h) fun c s1 e => ?_)
  cases c with
  | false => exact isTrue_or_nil e
  | true => exact e
theorem pw_and (ha : PT X a tA) (hb : PW X (.BoolOp .And (b :: rest) pos) tB') : PW X (.BoolOp .And (a :: b :: rest) pos) (tAnd tA tB') := by
  intro wh pins s σ H Q I h
  refine isTrue_and (thn (ha pins s σ H _ I h) fun c s1 ⟨H1, I1, q1⟩ => ?_)
  cases c with
  | true => exact hb wh pins s1 σ H1 Q I1 q1
  | false => exact ⟨H1, I1, q1⟩
theorem pw_or (ha : PT X a tA) (hb : PW X (.BoolOp .Or (b :: rest) pos) tB') : PW X (.BoolOp .Or (a :: b :: rest) pos) (tOr tA tB') := by
  intro wh pins s σ H Q I h
  refine isTrue_or (thn (ha pins s σ H _ I h) fun c s1 ⟨H1, I1, q1⟩ => ?_)
  cases c with
  | true => exact ⟨H1, I1, q1⟩
  | false => exact hb wh pins s1 σ H1 Q I1 q1
theorem pt_not (ha : PT X a tA) : PT X (.UnaryOp .Not a pos) (tNot tA) := by
  intro pins s σ H Q I h
  exact isTrue_not (ha pins s σ H (fun c H1 => Q (!c) H1) I h)
/-- a if t else b -/
def tIf (t : TT) (ta tb : TE) : TE := fun σ H Q => t σ H fun c H1 => if c = true then ta σ H1 Q else tb σ H1 Q
theorem pe_ifExp {c : Expr} (hc : PT X c tA) (ha : PE X a ta) (hb : PE X b tb) : PE X (.IfExp c a b pos) (tIf tA ta tb) := by
  intro pins s σ H Q I h
  refine wpAny_IfExp (thn (hc pins s σ H _ I h) fun d s1 ⟨H1, I1, q1⟩ => ?_)
  cases d with
  | true => exact ha pins s1 σ H1 Q I1 q1
  | false => exact hb pins s1 σ H1 Q I1 q1
end
end L2

namespace L2
open PySem PySem.Spec PyProof.Rows

/-! ### a list, a tuple that is read: tracked, frozen, or an object of the module -/
def SqL (K : PySem.W.Frag) (H : Hp) (a : Addr) (xs : List V) : Prop :=
  Rd H a (.lst xs) ∨
    ∃ (o : Obj) (its : Array Value) (n : Nat), K.lookup a = some o ∧ o.cls = .type "list" ∧ o.dict = none ∧ o.data = .seq its n ∧ its.size ≤ sizeLine ∧ Vals xs its.toList
def SqT (K : PySem.W.Frag) (H : Hp) (a : Addr) (xs : List V) : Prop :=
  Rd H a (.tup xs) ∨
    ∃ (o : Obj) (its : Array Value) (n : Nat), K.lookup a = some o ∧ o.cls = .type "tuple" ∧ o.data = .seq its n ∧ its.size ≤ sizeLine ∧ Vals xs its.toList
def absV : Value → Option V
  | .none => some .non
  | .bool b => some (.bl b)
  | .int i _ => some (.int i)
  | .str x _ => some (.str x)
  | .bytes b _ => some (.byt b)
  | .float b _ => some (.flt b)
  | .ref a => some (.ref a)
  | .type n => some (.ty n)
  | _ => none
theorem RelV.abs {x : V} {u : Value} (r : RelV x u) : absV u = some x := by
  cases x with
  | non => cases r; rfl
  | bl _ => cases r; rfl
  | int _ => obtain ⟨t, rfl⟩ := r; rfl
  | str _ => obtain ⟨t, rfl⟩ := r; rfl
  | byt _ => obtain ⟨t, rfl⟩ := r; rfl
  | flt _ => obtain ⟨t, rfl⟩ := r; rfl
  | ref _ => cases r; rfl
  | ty _ => cases r; rfl
theorem RelV.inj {x y : V} {u : Value} (r : RelV x u) (q : RelV y u) : x = y := Option.some.inj (r.abs.symm.trans q.abs)
theorem Vals.inj : ∀ {xs ys : List V} {us : List Value}, Vals xs us → Vals ys us → xs = ys
  | _, _, _, .nil, .nil => rfl
  | _, _, _, .cons r t, .cons r' t' => by rw [r.inj r', Vals.inj t t']
section
variable {X : Cx} {pins : List (Addr × Obj)} {σ : St} {H : Hp} {s : Shared} {a : Addr} {xs ys : List V}
theorem SqL.of {K : PySem.W.Frag} (h : H a = some (.lst xs)) : SqL K H a xs := .inl (.inl h)
theorem SqT.of {K : PySem.W.Frag} (h : H a = some (.tup xs)) : SqT K H a xs := .inl (.inl h)
theorem Inv.list (I : Inv X pins σ H s) (h : SqL X.K H a xs) : ∃ its : List Value, Vals xs its ∧ PlainL s.heap a its.toArray ∧ xs.length ≤ sizeLine := by
  rcases h with h | ⟨o, its, n, hk, hc, hd, hs, hz, r⟩
  · obtain ⟨z, its, n, r, e⟩ := h.ok I.hok
    exact ⟨its, r, ⟨_, n, e, rfl, rfl, rfl⟩, z⟩
  · refine ⟨its.toList, r, ⟨o, n, I.kIn a o hk, hc, hd, by simpa using hs⟩, ?_⟩
    have e := r.length
    simp only [Array.length_toList] at e
    omega
theorem Inv.tuple (I : Inv X pins σ H s) (h : SqT X.K H a xs) : ∃ its : List Value, Vals xs its ∧ IsTup s.heap a its.toArray ∧ xs.length ≤ sizeLine := by
  rcases h with h | ⟨o, its, n, hk, hc, hs, hz, r⟩
  · obtain ⟨z, its, r, p⟩ := h.ok I.hok
    exact ⟨its, r, p, z⟩
  · refine ⟨its.toList, r, ⟨o, I.kIn a o hk, hc, n, by simpa using hs⟩, ?_⟩
    have e := r.length
    simp only [Array.length_toList] at e
    omega
theorem Inv.list_inj (I : Inv X pins σ H s) (h : SqL X.K H a xs) (h' : SqL X.K H a ys) : xs = ys := by
  obtain ⟨its, r, ⟨o, n, e, _, _, d⟩, _⟩ := I.list h
  obtain ⟨its', r', ⟨o', n', e', _, _, d'⟩, _⟩ := I.list h'
  rw [e] at e'; cases e'
  rw [d] at d'
  injection d' with d1 _
  have : its = its' := by simpa using congrArg Array.toList d1
  subst this
  exact r.inj r'
end

/-! ### another wish about exceptions -/
abbrev Cx.wish (X : Cx) (E : Value → Shared → Prop) : Cx := { X with xe := E }
/-- no exception leaves -/
abbrev Cx.nox (X : Cx) : Cx := X.wish fun _ _ => False
theorem Cx.Ok.wish {X : Cx} (ok : X.Ok) (E : Value → Shared → Prop) : (X.wish E).Ok :=
  ⟨ok.mod, ok.kind, ok.glob, ok.blt, ok.above, ok.inj, ok.has, ok.cab, ok.hd, ok.frames, ok.stk, ok.exf, ok.bs, ok.bsz, ok.noex, ok.exfs, ok.funs, ok.frf⟩
theorem Cx.Ok.unwish {X : Cx} {E : Value → Shared → Prop} (ok : (X.wish E).Ok) : X.Ok :=
  ⟨ok.mod, ok.kind, ok.glob, ok.blt, ok.above, ok.inj, ok.has, ok.cab, ok.hd, ok.frames, ok.stk, ok.exf, ok.bs, ok.bsz, ok.noex, ok.exfs, ok.funs, ok.frf⟩
section
variable {X : Cx} {pins : List (Addr × Obj)} {σ : St} {H : Hp} {s : Shared} {E : Value → Shared → Prop}
theorem Inv.wish (I : Inv X pins σ H s) (E : Value → Shared → Prop) : Inv (X.wish E) pins σ H s := ⟨I.ok.wish E, I.os, I.bare, I.base, I.loc, I.cell, I.free, I.freeC, I.pin, I.hok, I.len⟩
theorem Inv.unwish (I : Inv (X.wish E) pins σ H s) : Inv X pins σ H s := ⟨I.ok.unwish, I.os, I.bare, I.base, I.loc, I.cell, I.free, I.freeC, I.pin, I.hok, I.len⟩
theorem SP.unwish {D : Ends} {f : Flow} {s' : Shared} (h : SP (X.wish E) pins D f s') : SP X pins D f s' := by
  cases f with
  | next => obtain ⟨σ', H', I, q⟩ := h; exact ⟨σ', H', I.unwish, q⟩
  | brk => obtain ⟨σ', H', I, q⟩ := h; exact ⟨σ', H', I.unwish, q⟩
  | cont => obtain ⟨σ', H', I, q⟩ := h; exact ⟨σ', H', I.unwish, q⟩
  | ret u => obtain ⟨v, σ', H', I, r, q⟩ := h; exact ⟨v, σ', H', I.unwish, r, q⟩
theorem PSs.nox {st : List Stmt} {t : TS} (h : PSs X.nox st t) : PSs X st t := fun pins s σ H D I hw =>
  wpAny_mono (h pins s σ H D (I.wish _) hw) (fun _ _ q => q.unwish) fun _ _ z => False.elim z
end

/-! ### blocks and small statements -/
section
variable {X : Cx} {st : Stmt} {rest : List Stmt} {t u : TS} {e : Expr} {te : TE} {pos : Pos}
def tNext : TS := fun D σ H => D.nx σ H
def tSeq (t u : TS) : TS := fun D σ H => t { D with nx := u D } σ H
theorem pss_nil : PSs X [] tNext := fun _ _ σ H _ I h => wpAny_execs_nil ⟨σ, H, I, h⟩
theorem pss_cons (h1 : PS X st t) (h2 : PSs X rest u) : PSs X (st :: rest) (tSeq t u) := by
  intro pins s σ H D I h
  refine wpAny_execs_cons (thn (h1 pins s σ H { D with nx := u D } I h) fun f s1 q => ?_)
  cases f with
  | next =>
    obtain ⟨σ', H', I', q⟩ := q
    exact h2 pins s1 σ' H' D I' q
  | ret v => exact q
  | brk => exact q
  | cont => exact q
theorem pss_one (h1 : PS X st t) : PSs X [st] t := by
  intro pins s σ H D I h
  refine wpAny_execs_cons (thn (h1 pins s σ H D I h) fun f s1 q => ?_)
  cases f with
  | next => exact wpAny_execs_nil q
  | ret v => exact q
  | brk => exact q
  | cont => exact q
def tBreak : TS := fun D σ H => D.bk σ H
theorem ps_break : PS X (.Break pos) tBreak := fun _ _ σ H _ I h => wpAny_Break ⟨σ, H, I, h⟩
/-- in a def's body nothing is shown -/
theorem Inv.quiet {pins : List (Addr × Obj)} {σ : St} {H : Hp} {s : Shared} (I : Inv X pins σ H s) : interactive X.env = false := by simp [interactive, I.ok.kind]
/-- an expression whose value is dropped -/
def tDrop (te : TE) : TS := fun D σ H => te σ H fun _ H1 => D.nx σ H1
theorem ps_expr (he : PE X e te) (hs : swapsWith e none pos.line X.env = pure false := by rfl) : PS X (.Expr e pos) (tDrop te) := by
  intro pins s σ H D I h
  exact wpAny_Expr_any (thn (he pins s σ H _ I h) fun v s1 ⟨x, H1, I1, r1, q1⟩ => ⟨σ, H1, I1, q1⟩) I.quiet hs
def tRet (te : TE) : TS := fun D σ H => te σ H D.rt
theorem ps_ret (he : PE X e te) : PS X (.Return (some e) pos) (tRet te) := by
  intro pins s σ H D I h
  exact wpAny_Return_some (thn (he pins s σ H _ I h) fun v s1 ⟨x, H1, I1, r1, q1⟩ => ⟨x, σ, H1, I1, r1, q1⟩)
def tIfS (c : TT) (t u : TS) : TS := fun D σ H => c σ H fun b H1 => if b = true then t D σ H1 else u D σ H1
theorem ps_if {c : Expr} {a b : List Stmt} {tc : TT} (hc : PT X c tc) (ha : PSs X a t) (hb : PSs X b u) : PS X (.If c a b pos) (tIfS tc t u) := by
  intro pins s σ H D I h
  refine wpAny_If (thn (hc pins s σ H _ I h) fun d s1 ⟨H1, I1, q1⟩ => ?_)
  cases d with
  | true => exact ha pins s1 σ H1 D I1 q1
  | false => exact hb pins s1 σ H1 D I1 q1
end

/-! ### targets -/
abbrev TG := V → St → Hp → (St → Hp → Prop) → Prop
abbrev TGs := List V → St → Hp → (St → Hp → Prop) → Prop
def PG (X : Cx) (target : Expr) (t : TG) : Prop :=
  ∀ (pins : List (Addr × Obj)) (s : Shared) (σ : St) (H : Hp) (v : V) (u : Value) (Q : St → Hp → Prop), Inv X pins σ H s → RelV v u → t v σ H Q →
    wpAny (model X.prog X.w) X.A (assign target X.env u) (fun _ s' => ∃ σ' H', Inv X pins σ' H' s' ∧ Q σ' H') X.xe s
/-- several targets, one after another -/
def PGs (X : Cx) (ts : List Expr) (t : TGs) : Prop :=
  ∀ (pins : List (Addr × Obj)) (s : Shared) (σ : St) (H : Hp) (vs : List V) (us : List Value) (Q : St → Hp → Prop), Inv X pins σ H s → Vals vs us → t vs σ H Q →
    wpAny (model X.prog X.w) X.A (assignInOrder ((assignEach ts X.env).map (·.2)) us) (fun _ s' => ∃ σ' H', Inv X pins σ' H' s' ∧ Q σ' H') X.xe s
/-- a op= b, by values -/
abbrev TIp := V → V → Hp → VK → Prop
def PIp (X : Cx) (op : Operator) (t : TIp) : Prop :=
  ∀ (pins : List (Addr × Obj)) (s : Shared) (σ : St) (H : Hp) (x y : V) (v u : Value) (Q : VK), Inv X pins σ H s → RelV x v → RelV y u → t x y H Q →
    wpAny (model X.prog X.w) X.A (inplaceOp op v u) (EP X pins σ Q) X.xe s
section
variable {X : Cx} {pos : Pos}
def gName (i : Nat) : TG := fun v σ H Q => Q (σ.set i (some v)) H
theorem pg_name {i : Nat} {x : Str} (hN : X.N.Nodup) (hi : X.N[i]? = some x) (hx : Loc X.env.scope x) (hf : X.fn x = true ∨ X.env.scope.names.lookup x = some .local := by first | exact .inl rfl | exact .inr rfl | assumption) : PG X (.Name x pos) (gName i) := by
  intro pins s σ H v u Q I r h
  exact wpAny_assign_Name (store_ok I hN hi hx r (fun s' I' => ⟨_, H, I', h⟩) hf)
def gNil : TGs := fun vs σ H Q => vs = [] ∧ Q σ H
def gCons (t : TG) (u : TGs) : TGs := fun vs σ H Q => ∃ v r, vs = v :: r ∧ t v σ H fun σ' H' => u r σ' H' Q
theorem pgs_nil : PGs X [] gNil := by
  intro pins s σ H vs us Q I r h
  obtain ⟨e, h⟩ := h
  subst e
  cases r
  exact assignInOrder_nil ⟨σ, H, I, h⟩
theorem pgs_cons {e : Expr} {es : List Expr} {t : TG} {u : TGs} (h1 : PG X e t) (h2 : PGs X es u)
    (hs : (assignEach (e :: es) X.env).map (·.2) = assign e X.env :: (assignEach es X.env).map (·.2) := by rfl) : PGs X (e :: es) (gCons t u) := by
  intro pins s σ H vs us Q I r h
  obtain ⟨v, vr, e1, h⟩ := h
  subst e1
  cases r with
  | cons r rr =>
    rw [hs]
    refine assignInOrder_cons (thn (h1 pins s σ H _ _ _ I r h) fun _ s1 ⟨σ1, H1, I1, q1⟩ => ?_)
    exact h2 pins s1 σ1 H1 _ _ Q I1 rr q1
/-- (a, b, ..) = a tuple of that length -/
def gTup (K : PySem.W.Frag) (n : Nat) (t : TGs) : TG := fun v σ H Q => ∃ a xs, v = .ref a ∧ SqT K H a xs ∧ xs.length = n ∧ t xs σ H Q
theorem pg_tup {es : List Expr} {k : Nat} {t : TGs} {n : Nat} (hc : X.calm = true) (h : PGs X es t)
    (hn : (assignEach es X.env).length = n := by rfl) (hst : (assignEach es X.env).findIdx? (·.1) = none := by rfl) : PG X (.Tuple es k pos) (gTup X.K n t) := by
  intro pins s σ H v u Q I r hw
  obtain ⟨a, xs, e1, hq, hl, hw⟩ := hw
  subst e1
  cases r
  obtain ⟨its, rv, ht, hz⟩ := I.tuple hq
  refine assign_Tuple_tuple (I.ok.hd hc) ht (by simp [hn, ← hl, rv.length]) hst fun h' hx => ?_
  have I1 : Inv X pins σ H { s with heap := h' } := I.kept (t' := s.toks) fun b o e => hx b o (Nat.ne_of_lt (Heap.lt_size e)) e
  exact h pins _ σ H xs _ Q I1 (by simpa using rv) hw
/-- target = value -/
def tAsg (te : TE) (g : TG) : TS := fun D σ H => te σ H fun x H1 => g x σ H1 D.nx
/-- name = value -/
theorem ps_set {i : Nat} {x : Str} {e : Expr} {te : TE} {pos' : Pos} (hN : X.N.Nodup) (hi : X.N[i]? = some x) (hx : Loc X.env.scope x) (he : PE X e te) (hs : swapsWith e (some (.Name x pos')) pos.line X.env = pure false := by rfl) (hf : X.fn x = true ∨ X.env.scope.names.lookup x = some .local := by first | exact .inl rfl | exact .inr rfl | assumption) :
    PS X (.Assign [.Name x pos'] e pos) (tAsg te (gName i)) := by
  intro pins s σ H D I h
  refine wpAny_Assign_Name (thn (he pins s σ H _ I h) fun v s1 ⟨y, H1, I1, r1, q1⟩ => ?_) hs
  exact store_ok I1 hN hi hx r1 (fun s2 I2 => ⟨_, H1, I2, q1⟩) hf
/-- name op= e -/
def tAug (i : Nat) (te : TE) (ti : TIp) : TS := fun D σ H => ∃ x, σ[i]? = some (some x) ∧ te σ H fun y H1 => ti x y H1 fun z H2 => D.nx (σ.set i (some z)) H2
theorem ps_aug {i : Nat} {x : Str} {e : Expr} {te : TE} {op : Operator} {ti : TIp} {pos' : Pos} (hN : X.N.Nodup) (hi : X.N[i]? = some x) (hx : Loc X.env.scope x) (he : PE X e te) (ho : PIp X op ti) (hf : X.fn x = true ∨ X.env.scope.names.lookup x = some .local := by first | exact .inl rfl | exact .inr rfl | assumption) :
    PS X (.AugAssign (.Name x pos') op e pos) (tAug i te ti) := by
  intro pins s σ H D I h
  obtain ⟨v, e1, h⟩ := h
  obtain ⟨m, hn, hl⟩ := I.loc
  have vis : Vis X.env.scope x := by rcases hx with k | k; exact .inl k; exact .inr (.inl k)
  obtain ⟨u, r, l⟩ := hl i x v hi e1 vis
  refine wpAny_AugAssign_Name ?_
  have go : wpAny (model X.prog X.w) X.A (eval e X.env) (fun w s₂ => wpAny (model X.prog X.w) X.A (inplaceOp op u w) (fun r s₃ => wpAny (model X.prog X.w) X.A (storeName X.env x r) (fun _ => SP X pins D .next) X.xe s₃) X.xe s₂) X.xe s := by
    refine thn (he pins s σ H _ I h) fun w s1 ⟨y, H1, I1, r1, q1⟩ => ?_
    refine thn (ho pins s1 σ H1 v y u w _ I1 r r1 q1) fun z s2 ⟨zv, H2, I2, r2, q2⟩ => ?_
    exact store_ok I2 hN hi hx r2 (fun s3 I3 => ⟨_, H2, I3, q2⟩) hf
  rcases l with ⟨hk, hm⟩ | ⟨hk, c, hc, hcell⟩
  · exact wpAny_loadName_local I.ok.kind hk hn hm go
  · rcases hk with hk | hk
    · exact wpAny_loadName_cell I.ok.kind hk hc hcell go
    · rcases hx with k | k
      · have : X.env.scope.names.lookup x = some .free := hk
        rw [k] at this; cases this
      · have : X.env.scope.names.lookup x = some .free := hk
        rw [k] at this; cases this
/-- ints -/
def ipI (f : Int → Int → Int) : TIp := fun x y H Q => ∃ i j, x = .int i ∧ y = .int j ∧ Q (.int (f i j)) H
theorem ip_add : PIp X .Add (ipI fun i j => i + j) := by
  intro pins s σ H x y v u Q I r1 r2 h
  obtain ⟨i, j, e1, e2, q⟩ := h
  subst e1; subst e2
  obtain ⟨t, rfl⟩ := r1
  obtain ⟨t', rfl⟩ := r2
  exact iadd_int ⟨.int _, H, I.tok _, ⟨_, rfl⟩, q⟩
end

/-! ### while -/
section
variable {X : Cx} {pos : Pos}
/-- the invariant W with its measure -/
def tWhile (c : TT) (tb : TS) : TS := fun D σ H => ∃ W : Nat → St → Hp → Prop, (∃ m, W m σ H) ∧ ∀ m σ H, W m σ H →
  c σ H fun b H1 => if b = true then ∃ N : St → Hp → Prop, (∀ σ' H', N σ' H' → ∃ m', m' < m ∧ W m' σ' H') ∧ tb { D with nx := N, ct := N, bk := D.nx } σ H1 else D.nx σ H1
theorem ps_while {c : Expr} {body : List Stmt} {tc : TT} {tb : TS} (hp : PassesOwn (model X.prog X.w) X.A X.env X.xe) (hc : PT X c tc) (hb : PSs X body tb) : PS X (.While c body [] pos) (tWhile tc tb) := by
  intro pins s σ H D I h
  obtain ⟨W, ⟨m0, w0⟩, turn⟩ := h
  refine wpAny_While (codeAny_whileLoop (fun n s' => ∃ σ' H', Inv X pins σ' H' s' ∧ W n σ' H') ?_ m0 ⟨σ, H, I, w0⟩)
  rintro n s1 ⟨σ1, H1, I1, w1⟩
  refine wpAny_passesOwn hp (thn (hc pins s1 σ1 H1 _ I1 (turn n σ1 H1 w1)) fun b s2 ⟨H2, I2, q2⟩ => ?_)
  cases b with
  | true =>
    obtain ⟨N, hN, q2⟩ := q2
    rw [if_pos rfl]
    refine wpAny_passesOwn hp (thn (hb pins s2 σ1 H2 _ I2 q2) fun f s3 q3 => ?_)
    cases f with
    | next =>
      obtain ⟨σ3, H3, I3, n3⟩ := q3
      obtain ⟨m', hm, w3⟩ := hN σ3 H3 n3
      exact ⟨m', hm, σ3, H3, I3, w3⟩
    | cont =>
      obtain ⟨σ3, H3, I3, n3⟩ := q3
      obtain ⟨m', hm, w3⟩ := hN σ3 H3 n3
      exact ⟨m', hm, σ3, H3, I3, w3⟩
    | brk => exact q3
    | ret v => exact q3
  | false =>
    rw [if_neg Bool.false_ne_true]
    exact wpAny_execs_nil ⟨σ1, H2, I2, q2⟩
end

/-! ### what a loop or a comprehension walks -/
/-- at turn i: it yields x (the heap may grow), or it stops -/
structure It where
  go : Nat → Hp → Prop
  yld : Nat → Hp → V → Hp → Prop
  stop : Nat → Hp → Prop
/-- the iterator's own objects may turn: they are not the frame's, not pinned, younger than the entry (or a comprehension's own) -/
def FpOk (X : Cx) (pins : List (Addr × Obj)) (H : Hp) (b : Addr) : Prop :=
  H b = none ∧ b ≠ X.env.locals ∧ b ∉ X.fs ∧ (b ∈ X.ex ∨ X.s_0.heap.objs.size ≤ b) ∧ (∀ x c, X.env.cells.lookup x = some c → c ≠ b) ∧ ∀ p ∈ X.pn ++ pins, p.1 ≠ b
theorem Inv.fpOk {X : Cx} {pins : List (Addr × Obj)} {σ : St} {H H' : Hp} {s : Shared} {b : Addr} (I : Inv X pins σ H s) (hb : s.heap.objs.size ≤ b) (hn : H' b = none) : FpOk X pins H' b := by
  refine ⟨hn, Nat.ne_of_gt (Nat.lt_of_lt_of_le I.lt hb), I.nofs hb, .inr (Nat.le_trans I.sz hb), fun x c e z => ?_, fun p hp z => ?_⟩
  · obtain ⟨v, q⟩ := I.cell x c e
    exact absurd (Nat.lt_of_lt_of_le q.lt (by rw [z]; exact hb)) (Nat.lt_irrefl _)
  · exact absurd (Nat.lt_of_lt_of_le (Heap.lt_size (I.pin p hp).1) (by rw [z]; exact hb)) (Nat.lt_irrefl _)
structure Turn (P : Program) (w : World) (K : PySem.W.Frag) (tg : Expr) (J : It) (fp : List Addr) (it : Addr) (tn : Nat → Heap → Prop) : Prop where
  mem : it ∈ fp
  obj : ∀ i h, tn i h → ∀ b ∈ fp, ∃ o, h.get? b = some o ∧ ∀ v, o.data ≠ .cell v
  keep : ∀ i h h', tn i h → (∀ b ∈ fp, ∀ o, h.get? b = some o → h'.get? b = some o) → tn i h'
  item : ∀ (X : Cx), X.prog = P → X.w = w → X.K = K → X.calm = true → ∀ (i : Nat) (pins : List (Addr × Obj)) (s : Shared) (σ : St) (H : Hp) (E : Value → Shared → Prop), Inv X pins σ H s → (∀ b ∈ fp, FpOk X pins H b) → tn i s.heap → J.go i H →
    wpAny (model P w) X.A (pyNext (.ref it)) (fun r s1 => ∃ u, r = some u ∧
      wpAny (model P w) X.A (letOwnedTupleGo tg (.ref it) u) (fun _ s2 => ∃ x H', Inv X pins σ H' s2 ∧ RelV x u ∧ J.yld i H x H' ∧ tn (i + 1) s2.heap ∧ ∀ b ∈ fp, H' b = none) E s1) E s
  done : ∀ (X : Cx), X.prog = P → X.w = w → X.K = K → X.calm = true → ∀ (i : Nat) (pins : List (Addr × Obj)) (s : Shared) (σ : St) (H : Hp) (E : Value → Shared → Prop), Inv X pins σ H s → (∀ b ∈ fp, FpOk X pins H b) → tn i s.heap → J.stop i H →
    wpAny (model P w) X.A (pyNext (.ref it)) (fun r s1 => r = none ∧ Inv X pins σ H s1) E s
  self : ∀ (A : Around) (i : Nat) (s : Shared) (Q : Value → Shared → Prop) (E : Value → Shared → Prop), tn i s.heap → Q (.ref it) s → wpAny (model P w) A (pyIter (.ref it)) Q E s
abbrev TI := St → Hp → (It → Hp → Prop) → Prop
/-- an iterator has come -/
def PIE (X : Cx) (pins : List (Addr × Obj)) (σ : St) (tg : Expr) (R : It → Hp → Prop) (itv : Value) (s2 : Shared) : Prop :=
  ∃ (it : Addr) (fp : List Addr) (tn : Nat → Heap → Prop) (J : It) (H' : Hp), itv = .ref it ∧ Inv X pins σ H' s2 ∧ Turn X.prog X.w X.K tg J fp it tn ∧ tn 0 s2.heap ∧ (∀ b ∈ fp, FpOk X pins H' b) ∧ R J H'
def PI (X : Cx) (tg iter : Expr) (wi : TI) : Prop :=
  ∀ (pins : List (Addr × Obj)) (s : Shared) (σ : St) (H : Hp) (R : It → Hp → Prop), Inv X pins σ H s → wi σ H R →
    wpAny (model X.prog X.w) X.A (eval iter X.env) (fun v s1 => wpAny (model X.prog X.w) X.A (pyIter v) (PIE X pins σ tg R) X.xe s1) X.xe s

/-- the step ahead of the store is nothing for an iterator that keeps no tuple -/
theorem go_of {M : Model} {A : Around} {E : Value → Shared → Prop} {s : Shared} {tg : Expr} {it : Addr} {u : Value} {o : Obj} {n : String} {vs : Array Value} {Q : Unit → Shared → Prop} (ho : s.heap.get? it = some o) (hc : o.cls = .type n) (hd : o.data = .fields vs)
    (hn : ["enumerate", "zip", "dict_itemiterator", "dict_reverseitemiterator", "odict_iterator", "itertools.zip_longest", "itertools.pairwise"].contains n = false) (hQ : Q () s) : wpAny M A (letOwnedTupleGo tg (.ref it) u) Q E s := by
  unfold letOwnedTupleGo
  cases tg <;> first
    | exact wpAny_pure hQ
    | (cases u <;> first
        | exact wpAny_pure hQ
        | (refine wpAny_bind (wpAny_load ho ?_)
           rw [hc, hd]
           show wpAny M A (if (["enumerate", "zip", "dict_itemiterator", "dict_reverseitemiterator", "odict_iterator", "itertools.zip_longest", "itertools.pairwise"].contains n && vs[0]? == some (rawInt _)) = true then _ else _) Q E s
           rw [if_neg (by intro h; rw [hn, Bool.false_and] at h; cases h)]
           exact wpAny_pure hQ))

/-- the list at a, as it stands at each turn (a loop may append to it) -/
def Itl (K : PySem.W.Frag) (a : Addr) : It :=
  ⟨fun i H => ∃ xs x, SqL K H a xs ∧ xs[i]? = some x, fun i H x H' => H' = H ∧ ∀ xs, SqL K H a xs → xs[i]? = some x, fun i H => ∃ xs, SqL K H a xs ∧ xs.length ≤ i⟩
/-- lo, lo + 1, .. (n of them) -/
def Itr (lo : Int) (n : Nat) : It := ⟨fun i _ => i < n, fun i H x H' => H' = H ∧ x = .int (lo + i), fun i _ => n ≤ i⟩
theorem turn_list {P : Program} {w : World} {K : PySem.W.Frag} {tg : Expr} (a it : Addr) : Turn P w K tg (Itl K a) [it] it (fun i h => h.IsListIter it a i) where
  mem := by simp
  obj := fun i h st b hb => by
    have e : b = it := by simpa using hb
    subst e
    obtain ⟨o, e, c, d⟩ := st
    exact ⟨o, e, fun v z => by rw [d] at z; cases z⟩
  keep := fun i h h' st k => st.at fun o e => k it (by simp) o e
  item := by
    intro X hP hw hK hc i pins s σ H E I hf st hg
    subst hP hw hK
    obtain ⟨xs, x, hq, hx⟩ := hg
    obtain ⟨its, rv, p, hz⟩ := I.list hq
    obtain ⟨u, hu, ru⟩ := rv.get hx
    obtain ⟨f0, f1, f2, f3, f4, f5⟩ := hf it (by simp)
    refine wpAny_pyNext_list_item st p.isList (x := u) (by simpa using hu) fun h' st' sb => ?_
    have I1 : Inv X pins σ H { s with heap := h' } := I.turned (t' := s.toks) (fun b o hb e => (sb.2 b hb).trans e) f0 f1 f3 f4 f5
    obtain ⟨o, e, c, d⟩ := id st'
    exact ⟨u, rfl, go_of (s := { s with heap := h' }) e c d (by decide) ⟨x, H, I1, ru, ⟨rfl, fun ys hy => by rw [I.list_inj hy hq]; exact hx⟩, st', fun b hb => (hf b hb).1⟩⟩
  done := by
    intro X hP hw hK hc i pins s σ H E I hf st hg
    subst hP hw hK
    obtain ⟨xs, hq, hx⟩ := hg
    obtain ⟨its, rv, p, hz⟩ := I.list hq
    obtain ⟨f0, f1, f2, f3, f4, f5⟩ := hf it (by simp)
    have hl := rv.length
    exact wpAny_pyNext_list_end (I.ok.hd hc) st p.isList (by simp; omega) fun h' eb => ⟨rfl, I.turned (t' := s.toks) (fun b o hb e => eb b o hb e) f0 f1 f3 f4 f5⟩
  self := fun _ _ _ _ _ st h => wpAny_pyIter_listiter st h
theorem turn_range {P : Program} {w : World} {K : PySem.W.Frag} {tg : Expr} (it : Addr) (lo : Int) (n : Nat) : Turn P w K tg (Itr lo n) [it] it (fun i h => IsRangeIter h it (lo + (i : Nat) * 1) ((n : Int) - (i : Nat)) 1) where
  mem := by simp
  obj := fun i h st b hb => by
    have e : b = it := by simpa using hb
    subst e
    exact ⟨_, st, fun v z => by
      have z' : Data.fields _ = Data.cell v := z
      cases z'⟩
  keep := fun i h h' st k => k it (by simp) _ st
  item := by
    intro X hP hw hK hc i pins s σ H E I hf st hg
    subst hP hw hK
    obtain ⟨f0, f1, f2, f3, f4, f5⟩ := hf it (by simp)
    have W := Walks.range (prog := X.prog) (w := X.w) (I.ok.hd hc) it lo 1 n
    refine W.item i s _ _ hg st fun v h' tk hv st' kk => ?_
    obtain ⟨t, rfl⟩ := hv
    have I1 : Inv X pins σ H { s with heap := h', toks := tk } := I.turned (fun b o hb e => kk b o (by simpa using hb) e) f0 f1 f3 f4 f5
    refine ⟨_, rfl, go_of (s := { s with heap := h', toks := tk }) (n := "range_iterator") st' rfl rfl (by decide) ⟨.int (lo + i), H, I1, ⟨t, ?_⟩, ⟨rfl, rfl⟩, st', fun b hb => (hf b hb).1⟩⟩
    rw [Int.mul_one]
  done := by
    intro X hP hw hK hc i pins s σ H E I hf st hg
    subst hP hw hK
    obtain ⟨f0, f1, f2, f3, f4, f5⟩ := hf it (by simp)
    exact wpAny_pyNext_range_end (I.ok.hd hc) st (by have : n ≤ i := hg; omega) fun h' eb => ⟨rfl, I.turned (t' := s.toks) (fun b o hb e => eb b o hb e) f0 f1 f3 f4 f5⟩
  self := fun _ _ _ _ _ st h => wpAny_pyIter_rangeiter st h
end L2

namespace L2
open PySem PySem.Spec PyProof.Rows
section
variable {X : Cx} {tg : Expr}
def iList (K : PySem.W.Frag) (tl : TE) : TI := fun σ H R => tl σ H fun x H1 => ∃ a, x = .ref a ∧ (∃ xs, SqL K H1 a xs) ∧ R (Itl K a) H1
theorem pi_list {l : Expr} {tl : TE} (hl : PE X l tl) : PI X tg l (iList X.K tl) := by
  intro pins s σ H R I h
  refine thn (hl pins s σ H _ I h) fun v s1 ⟨x, H1, I1, r1, q1⟩ => ?_
  obtain ⟨a, e, ⟨xs, hq⟩, q⟩ := q1
  subst e
  cases r1
  obtain ⟨its, rv, p, hz⟩ := I1.list hq
  refine wpAny_pyIter_list p.isList ?_
  refine ⟨s1.heap.objs.size, [s1.heap.objs.size], _, _, H1, rfl, I1.kept (t' := s1.toks) fun b o e => Heap.get?_push_of_some _ e, turn_list a _, ⟨_, Heap.get?_push_size _ rfl, rfl, rfl⟩, fun b hb => ?_, q⟩
  have e : b = s1.heap.objs.size := by simpa using hb
  subst e
  exact I1.fpOk (Nat.le_refl _) (I1.hok.fresh (Nat.le_refl _))
/-- a range object just made, walked -/
theorem range_it {pins : List (Addr × Obj)} {σ : St} {H : Hp} {s : Shared} {R : It → Hp → Prop} {E : Value → Shared → Prop} {lo hi : Int} {t u v : Tok} {tk : Nat} (I : Inv X pins σ H s) (h1 : -(2 ^ 62) ≤ lo) (h2 : lo < 2 ^ 62) (h3 : -(2 ^ 62) ≤ hi) (h4 : hi < 2 ^ 62)
    (q : R (Itr lo (hi - lo).toNat) H) : wpAny (model X.prog X.w) X.A (pyIter (.ref s.heap.objs.size)) (PIE X pins σ tg R) E { s with heap := s.heap.push { cls := .type "range", data := .fields #[.int lo t, .int hi u, .int 1 v] }, toks := tk } := by
  refine wpAny_pyIter_range (IsRange.new ..) (small_one h1 h2 h3 h4) ?_
  have I1 : Inv X pins σ H { s with heap := s.heap.push { cls := .type "range", data := .fields #[.int lo t, .int hi u, .int 1 v] }, toks := tk } := I.kept fun b o e => Heap.get?_push_of_some _ e
  refine ⟨(s.heap.push { cls := .type "range", data := .fields #[.int lo t, .int hi u, .int 1 v] }).objs.size, [(s.heap.push { cls := .type "range", data := .fields #[.int lo t, .int hi u, .int 1 v] }).objs.size], _, _, H, rfl,
    I1.kept (t' := tk) fun b o e => Heap.get?_push_of_some _ e, turn_range _ lo (hi - lo).toNat, ?_, fun b hb => ?_, q⟩
  · have e1 : lo + ((0 : Nat) : Int) * 1 = lo := by simp
    have e2 : (((hi - lo).toNat : Nat) : Int) - ((0 : Nat) : Int) = Builtin.Range.rangeSize lo hi 1 := by rw [rangeSize_one]; split <;> omega
    show IsRangeIter _ _ (lo + ((0 : Nat) : Int) * 1) ((((hi - lo).toNat : Nat) : Int) - ((0 : Nat) : Int)) 1
    rw [e1, e2]
    exact Heap.get?_push_size _ rfl
  · have e : b = (s.heap.push { cls := .type "range", data := .fields #[.int lo t, .int hi u, .int 1 v] }).objs.size := by simpa using hb
    subst e
    exact I1.fpOk (Nat.le_refl _) (I1.hok.fresh (Nat.le_refl _))
def iRng1 (ta : TA) : TI := fun σ H R => ta σ H fun vs H1 => ∃ j : Int, vs = [.int j] ∧ -(2 ^ 62) ≤ j ∧ j < 2 ^ 62 ∧ R (Itr 0 j.toNat) H1
def iRng2 (ta : TA) : TI := fun σ H R => ta σ H fun vs H1 => ∃ i j : Int, vs = [.int i, .int j] ∧ (-(2 ^ 62) ≤ i ∧ i < 2 ^ 62 ∧ -(2 ^ 62) ≤ j ∧ j < 2 ^ 62) ∧ R (Itr i (j - i).toNat) H1
theorem pi_range1 {a : Expr} {ta : TA} {p pos : Pos} (hg : Gl X "range") (hm : X.mg "range" = none) (ha : PA X [a] ta) (hs : starEach [a] X.env = [(false, eval a X.env)] := by rfl) : PI X tg (.Call (.Name "range" p) [a] [] pos) (iRng1 ta) := by
  intro pins s σ H R I h
  refine Call_ (ld_blt I hg hm boot_range (PyProof.Rows.callWith_type1 (thn (ha pos pins s σ H _ I h) fun us s1 ⟨vs, H1, I1, r1, q1⟩ => ?_) hs rfl))
  obtain ⟨j, e, q1, q2, q⟩ := q1
  subst e
  cases r1 with
  | cons r rr =>
    cases rr
    obtain ⟨t, rfl⟩ := r
    exact call_range_1 (range_it I1 (by omega) (by omega) q1 q2 (by simpa using q))
theorem pi_range2 {a b : Expr} {ta : TA} {p pos : Pos} (hg : Gl X "range") (hm : X.mg "range" = none) (ha : PA X [a, b] ta) (hs : starEach [a, b] X.env = [(false, eval a X.env), (false, eval b X.env)] := by rfl) (hs2 : starEach [b] X.env = [(false, eval b X.env)] := by rfl) :
    PI X tg (.Call (.Name "range" p) [a, b] [] pos) (iRng2 ta) := by
  intro pins s σ H R I h
  refine Call_ (ld_blt I hg hm boot_range (PyProof.Rows.callWith_type1 (thn (ha pos pins s σ H _ I h) fun us s1 ⟨vs, H1, I1, r1, q1⟩ => ?_) (by rw [hs, hs2]) (by rw [hs2]; rfl)))
  obtain ⟨i, j, e, ⟨q1, q2, q3, q4⟩, q⟩ := q1
  subst e
  cases r1 with
  | cons r rr =>
    cases rr with
    | cons r' rr =>
      cases rr
      obtain ⟨t, rfl⟩ := r
      obtain ⟨t', rfl⟩ := r'
      exact call_range_2 (range_it I1 q1 q2 q3 q4 q)

/-! ### for -/
/-- W: the invariant by the turn and a measure; N: what the body is to reach -/
def tFor (wi : TI) (g : TG) (tb : TS) : TS := fun D σ H => wi σ H fun J H1 => ∃ W : Nat → Nat → St → Hp → Prop, (∃ m, W 0 m σ H1) ∧ ∀ i m σ H, W i m σ H →
  (J.stop i H ∧ D.nx σ H) ∨ (J.go i H ∧ ∃ N : St → Hp → Prop, (∀ σ' H', N σ' H' → ∃ m', m' < m ∧ W (i + 1) m' σ' H') ∧ ∀ x H', J.yld i H x H' → g x σ H' fun σ2 H2 => tb { D with nx := N, ct := N, bk := D.nx } σ2 H2)
/-- the records at fp as they stand -/
def pinsAt (fp : List Addr) (h : Heap) : List (Addr × Obj) := fp.filterMap fun b => (h.get? b).map fun o => (b, o)
theorem mem_pinsAt {fp : List Addr} {h : Heap} {b : Addr} {o : Obj} (hb : b ∈ fp) (e : h.get? b = some o) : (b, o) ∈ pinsAt fp h := List.mem_filterMap.mpr ⟨b, hb, by rw [e]; rfl⟩
theorem of_pinsAt {fp : List Addr} {h : Heap} {p : Addr × Obj} (hp : p ∈ pinsAt fp h) : p.1 ∈ fp ∧ h.get? p.1 = some p.2 := by
  obtain ⟨b, hb, e⟩ := List.mem_filterMap.mp hp
  cases q : h.get? b with
  | none => rw [q] at e; cases e
  | some o =>
    rw [q] at e
    have e' : (b, o) = p := Option.some.inj e
    subst e'
    exact ⟨hb, q⟩
theorem Inv.pinned {pins : List (Addr × Obj)} {σ : St} {H : Hp} {s : Shared} {fp : List Addr} (I : Inv X pins σ H s) (hf : ∀ b ∈ fp, FpOk X pins H b) (ho : ∀ b ∈ fp, ∃ o, s.heap.get? b = some o ∧ ∀ v, o.data ≠ .cell v) : Inv X (pins ++ pinsAt fp s.heap) σ H s :=
  I.pins_of fun p hp => (List.mem_append.mp hp).elim (fun z => I.pin p (List.mem_append_right _ z)) fun z => by
    obtain ⟨hb, e⟩ := of_pinsAt z
    obtain ⟨f0, f1, f2, _⟩ := hf p.1 hb
    obtain ⟨o, e', d⟩ := ho p.1 hb
    rw [e] at e'; cases e'
    exact ⟨e, f0, f1, f2, d⟩
theorem Inv.unpinned {pins pl : List (Addr × Obj)} {σ : St} {H : Hp} {s : Shared} (I : Inv X (pins ++ pl) σ H s) : Inv X pins σ H s := I.pins_of fun p hp => I.pin p (List.mem_append_right _ (List.mem_append_left _ hp))
theorem ps_for {iter : Expr} {body : List Stmt} {wi : TI} {g : TG} {tb : TS} {pos : Pos} (hp : PassesOwn (model X.prog X.w) X.A X.env X.xe) (hc : X.calm = true) (hi : PI X tg iter wi) (hg : PG X tg g) (hb : PSs X body tb)
    (hs : ∀ x, foldedSetIterable iter X.env x = pure x := by intro _; rfl) : PS X (.For tg iter body [] pos) (tFor wi g tb) := by
  intro pins s σ H D I h
  refine wpAny_For (thn (hi pins s σ H _ I h) fun v s1 h1 => thn h1 fun itv s2 h2 => ?_) hs
  obtain ⟨it, fp, tn, J, H2, e, I2, T, st2, f2, W, ⟨m0, w0⟩, turn⟩ := h2
  subst e
  -- what stays true of the iterator's objects through the loop
  have stat : ∀ {H' : Hp}, (∀ b ∈ fp, H' b = none) → ∀ b ∈ fp, FpOk X pins H' b := fun hn b hb => ⟨hn b hb, (f2 b hb).2⟩
  refine codeAny_forLoop_any (fun n s' => ∃ i σ' H', Inv X pins σ' H' s' ∧ tn i s'.heap ∧ (∀ b ∈ fp, H' b = none) ∧ W i n σ' H') ?_ m0 ⟨0, σ, H2, I2, st2, fun b hb => (f2 b hb).1, w0⟩
  rintro n s3 ⟨i, σ3, H3, I3, st3, fr3, w3⟩
  rcases turn i n σ3 H3 w3 with ⟨stop, qn⟩ | ⟨go, N, hN, step⟩
  · refine wpAny_passesOwn hp (thn (T.done X rfl rfl rfl hc i pins s3 σ3 H3 X.xe I3 (stat fr3) st3 stop) fun r s4 ⟨hr, I4⟩ => ?_)
    subst hr
    exact wpAny_execs_nil ⟨σ3, H3, I4, qn⟩
  · refine wpAny_passesOwn hp (thn (T.item X rfl rfl rfl hc i pins s3 σ3 H3 X.xe I3 (stat fr3) st3 go) fun r s4 ⟨u, hr, h4⟩ => ?_)
    subst hr
    refine wpAny_passesOwn hp (thn h4 fun _ s5 ⟨x, H5, I5, r5, y5, st5, fr5⟩ => ?_)
    have I5' := I5.pinned (stat fr5) (T.obj _ _ st5)
    refine wpAny_passesOwn hp (thn (hg _ s5 σ3 H5 x u _ I5' r5 (step x H5 y5)) fun _ s6 ⟨σ6, H6, I6, q6⟩ => ?_)
    refine wpAny_passesOwn hp (thn (hb _ s6 σ6 H6 _ I6 q6) fun f s7 q7 => ?_)
    have again : ∀ {σ7 : St} {H7 : Hp}, Inv X (pins ++ pinsAt fp s5.heap) σ7 H7 s7 → N σ7 H7 → ∃ m, m < n ∧ ∃ i σ' H', Inv X pins σ' H' s7 ∧ tn i s7.heap ∧ (∀ b ∈ fp, H' b = none) ∧ W i m σ' H' := fun {σ7 H7} I7 n7 => by
      obtain ⟨m', hm, w7⟩ := hN σ7 H7 n7
      refine ⟨m', hm, i + 1, σ7, H7, I7.unpinned, T.keep _ _ _ st5 fun b hb o e => (I7.pin (b, o) (List.mem_append_right _ (List.mem_append_right _ (mem_pinsAt hb e)))).1, fun b hb => ?_, w7⟩
      obtain ⟨o, e, d⟩ := T.obj _ _ st5 b hb
      exact (I7.pin (b, o) (List.mem_append_right _ (List.mem_append_right _ (mem_pinsAt hb e)))).2.1
    cases f with
    | next => obtain ⟨σ7, H7, I7, n7⟩ := q7; exact again I7 n7
    | cont => obtain ⟨σ7, H7, I7, n7⟩ := q7; exact again I7 n7
    | brk => obtain ⟨σ7, H7, I7, q7⟩ := q7; exact ⟨σ7, H7, I7.unpinned, q7⟩
    | ret v => obtain ⟨x7, σ7, H7, I7, r7, q7⟩ := q7; exact ⟨x7, σ7, H7, I7.unpinned, r7, q7⟩
end

/-! ### the forms one uses -/
/-- over a list that the body leaves as it is -/
theorem for_list {K : PySem.W.Frag} {a : Addr} {xs : List V} {g : TG} {tb : TS} {D : Ends} {σ : St} {H : Hp} (Pv : Nat → St → Hp → Prop) (h0 : Pv 0 σ H) (hl : ∀ i σ H, i ≤ xs.length → Pv i σ H → SqL K H a xs)
    (hs : ∀ i x σ H, xs[i]? = some x → Pv i σ H → g x σ H fun σ2 H2 => tb { D with nx := Pv (i + 1), ct := Pv (i + 1), bk := D.nx } σ2 H2) (hd : ∀ σ H, Pv xs.length σ H → D.nx σ H) :
    ∃ W : Nat → Nat → St → Hp → Prop, (∃ m, W 0 m σ H) ∧ ∀ i m σ H, W i m σ H →
      ((Itl K a).stop i H ∧ D.nx σ H) ∨ ((Itl K a).go i H ∧ ∃ N : St → Hp → Prop, (∀ σ' H', N σ' H' → ∃ m', m' < m ∧ W (i + 1) m' σ' H') ∧ ∀ x H', (Itl K a).yld i H x H' → g x σ H' fun σ2 H2 => tb { D with nx := N, ct := N, bk := D.nx } σ2 H2) := by
  refine ⟨fun i m σ H => m = xs.length - i ∧ i ≤ xs.length ∧ Pv i σ H, ⟨xs.length, by simp, Nat.zero_le _, h0⟩, ?_⟩
  rintro i m σ H ⟨rfl, hi, p⟩
  have q := hl i σ H hi p
  by_cases hlt : i < xs.length
  · refine .inr ⟨⟨xs, xs[i], q, by simp [hlt]⟩, Pv (i + 1), fun σ' H' p' => ⟨xs.length - (i + 1), by omega, rfl, hlt, p'⟩, fun x H' y => ?_⟩
    obtain ⟨e, y⟩ := y
    subst e
    exact hs i x σ _ (y xs q) p
  · have e : i = xs.length := by omega
    subst e
    exact .inl ⟨⟨xs, q, Nat.le_refl _⟩, hd σ H p⟩
theorem for_range {lo : Int} {n : Nat} {g : TG} {tb : TS} {D : Ends} {σ : St} {H : Hp} (Pv : Nat → St → Hp → Prop) (h0 : Pv 0 σ H)
    (hs : ∀ i σ H, i < n → Pv i σ H → g (.int (lo + i)) σ H fun σ2 H2 => tb { D with nx := Pv (i + 1), ct := Pv (i + 1), bk := D.nx } σ2 H2) (hd : ∀ σ H, Pv n σ H → D.nx σ H) :
    ∃ W : Nat → Nat → St → Hp → Prop, (∃ m, W 0 m σ H) ∧ ∀ i m σ H, W i m σ H →
      ((Itr lo n).stop i H ∧ D.nx σ H) ∨ ((Itr lo n).go i H ∧ ∃ N : St → Hp → Prop, (∀ σ' H', N σ' H' → ∃ m', m' < m ∧ W (i + 1) m' σ' H') ∧ ∀ x H', (Itr lo n).yld i H x H' → g x σ H' fun σ2 H2 => tb { D with nx := N, ct := N, bk := D.nx } σ2 H2) := by
  refine ⟨fun i m σ H => m = n - i ∧ i ≤ n ∧ Pv i σ H, ⟨n, by simp, Nat.zero_le _, h0⟩, ?_⟩
  rintro i m σ H ⟨rfl, hi, p⟩
  by_cases hlt : i < n
  · refine .inr ⟨hlt, Pv (i + 1), fun σ' H' p' => ⟨n - (i + 1), by omega, rfl, hlt, p'⟩, fun x H' y => ?_⟩
    obtain ⟨e, y⟩ := y
    subst e y
    exact hs i σ _ hlt p
  · have e : i = n := by omega
    subst e
    exact .inl ⟨Nat.le_refl _, hd σ H p⟩
/-- while, by a word and a measure of the state -/
theorem while_by {c : TT} {tb : TS} {D : Ends} {σ : St} {H : Hp} (Pv : St → Hp → Prop) (μ : St → Hp → Nat) (h0 : Pv σ H)
    (hs : ∀ σ H, Pv σ H → c σ H fun b H1 => if b = true then tb { D with nx := fun σ' H' => Pv σ' H' ∧ μ σ' H' < μ σ H, ct := fun σ' H' => Pv σ' H' ∧ μ σ' H' < μ σ H, bk := D.nx } σ H1 else D.nx σ H1)
    (mono : ∀ σ H Q Q', (∀ b H1, Q b H1 → Q' b H1) → c σ H Q → c σ H Q') : tWhile c tb D σ H := by
  refine ⟨fun m σ H => m = μ σ H ∧ Pv σ H, ⟨_, rfl, h0⟩, ?_⟩
  rintro m σ H ⟨rfl, p⟩
  refine mono σ H _ _ (fun b H1 q => ?_) (hs σ H p)
  cases b with
  | true => exact ⟨_, fun σ' H' ⟨p', l⟩ => ⟨_, l, rfl, p'⟩, q⟩
  | false => exact q
end L2

namespace L2
open PySem PySem.Spec PyProof.Rows

abbrev R2 := V → V → Hp → VK → Prop
/-- a two-place operation on values: f is binaryOp op, inplaceOp op or compareOp op -/
def OpR (X : Cx) (f : Value → Value → Sem Value) (r : R2) : Prop :=
  ∀ (pins : List (Addr × Obj)) (s : Shared) (σ : St) (H : Hp) (x y : V) (v u : Value) (Q : VK), Inv X pins σ H s → RelV x v → RelV y u → r x y H Q →
    wpAny (model X.prog X.w) X.A (f v u) (EP X pins σ Q) X.xe s
/-- a call of a value that is known (a builtin, a type) with values -/
def CallR (X : Cx) (f : Value) (r : List V → Hp → VK → Prop) : Prop :=
  ∀ (pins : List (Addr × Obj)) (s : Shared) (σ : St) (H : Hp) (xs : List V) (us : List Value) (Q : VK), Inv X pins σ H s → Vals xs us → r xs H Q →
    wpAny (model X.prog X.w) X.A (call f us) (EP X pins σ Q) X.xe s

def tOp (r : R2) (ta tb : TE) : TE := fun σ H Q => ta σ H fun x H1 => tb σ H1 fun y H2 => r x y H2 Q
/-- ints in, under C, and a value out -/
def rI (C : Int → Int → Prop) (g : Int → Int → V) : R2 := fun x y H Q => ∃ i j, x = .int i ∧ y = .int j ∧ C i j ∧ Q (g i j) H
def rI0 (g : Int → Int → V) : R2 := fun x y H Q => ∃ i j, x = .int i ∧ y = .int j ∧ Q (g i j) H

section
variable {X : Cx} {a b c : Expr} {ta tb tc : TE} {pos : Pos}

theorem binT (ha : PE X a ta) (hb : PE X b tb) {pins : List (Addr × Obj)} {s : Shared} {σ : St} {H : Hp} {R : V → V → Hp → Prop} (I : Inv X pins σ H s)
    (h : ta σ H fun x H1 => tb σ H1 fun y H2 => R x y H2) {Q : Value → Shared → Prop} {f : Value → Value → Sem Value}
    (hf : ∀ v u s2 x y H2, Inv X pins σ H2 s2 → RelV x v → RelV y u → R x y H2 → wpAny (model X.prog X.w) X.A (f v u) Q X.xe s2) :
    wpAny (model X.prog X.w) X.A (eval a X.env) (fun v s₁ => wpAny (model X.prog X.w) X.A (eval b X.env) (fun u s₂ => wpAny (model X.prog X.w) X.A (f v u) Q X.xe s₂) X.xe s₁) X.xe s := by
  refine thn (ha pins s σ H _ I h) fun v s1 ⟨x, H1, I1, r1, q1⟩ => ?_
  refine thn (hb pins s1 σ H1 _ I1 q1) fun u s2 ⟨y, H2, I2, r2, q2⟩ => ?_
  exact hf v u s2 x y H2 I2 r1 r2 q2

theorem pe_op {op : Operator} {r : R2} (ho : OpR X (binaryOp op) r) (ha : PE X a ta) (hb : PE X b tb) : PE X (.BinOp a op b pos) (tOp r ta tb) := by
  intro pins s σ H Q I h
  exact wpAny_BinOp (binT ha hb I h fun v u s2 x y H2 I2 rx ry q => ho pins s2 σ H2 x y v u Q I2 rx ry q)

/-! ### ints -/
theorem opI {f : Value → Value → Sem Value} {C : Int → Int → Prop} {g : Int → Int → Int}
    (rule : ∀ (i j : Int) (t u : Tok) (s : Shared) (Q : Value → Shared → Prop) (E : Value → Shared → Prop), C i j → Q (.int (g i j) s.toks) { s with toks := s.toks + 1 } → wpAny (model X.prog X.w) X.A (f (.int i t) (.int j u)) Q E s) :
    OpR X f (rI C fun i j => .int (g i j)) := by
  intro pins s σ H x y v u Q I rx ry h
  obtain ⟨i, j, rfl, rfl, hc, q⟩ := h
  obtain ⟨t, rfl⟩ := rx
  obtain ⟨t', rfl⟩ := ry
  exact rule i j t t' s _ _ hc ⟨.int (g i j), H, I.tok _, ⟨_, rfl⟩, q⟩
theorem opI0 {f : Value → Value → Sem Value} {g : Int → Int → Int}
    (rule : ∀ (i j : Int) (t u : Tok) (s : Shared) (Q : Value → Shared → Prop) (E : Value → Shared → Prop), Q (.int (g i j) s.toks) { s with toks := s.toks + 1 } → wpAny (model X.prog X.w) X.A (f (.int i t) (.int j u)) Q E s) :
    OpR X f (rI0 fun i j => .int (g i j)) := by
  intro pins s σ H x y v u Q I rx ry h
  obtain ⟨i, j, rfl, rfl, q⟩ := h
  obtain ⟨t, rfl⟩ := rx
  obtain ⟨t', rfl⟩ := ry
  exact rule i j t t' s _ _ ⟨.int (g i j), H, I.tok _, ⟨_, rfl⟩, q⟩
theorem opB0 {f : Value → Value → Sem Value} {g : Int → Int → Bool}
    (rule : ∀ (i j : Int) (t u : Tok) (s : Shared) (Q : Value → Shared → Prop) (E : Value → Shared → Prop), Q (.bool (g i j)) s → wpAny (model X.prog X.w) X.A (f (.int i t) (.int j u)) Q E s) :
    OpR X f (rI0 fun i j => .bl (g i j)) := by
  intro pins s σ H x y v u Q I rx ry h
  obtain ⟨i, j, rfl, rfl, q⟩ := h
  obtain ⟨t, rfl⟩ := rx
  obtain ⟨t', rfl⟩ := ry
  exact rule i j t t' s _ _ ⟨.bl (g i j), H, I, rfl, q⟩

def CDiv (i j : Int) : Prop := 0 < j ∧ j < 1073741824
def CMul (i j : Int) : Prop := (-(2 ^ 64) < i ∧ i < 2 ^ 64) ∨ (-(2 ^ 64) < j ∧ j < 2 ^ 64)
theorem CMul.ok {i j : Int} (h : CMul i j) : IntMulOk i j := by
  rcases h with ⟨h1, h2⟩ | ⟨h1, h2⟩
  · exact .of_left (intBits_le_64 h1 h2)
  · exact .of_right (intBits_le_64 h1 h2)

theorem op_add : OpR X (binaryOp .Add) (rI0 fun i j => .int (i + j)) := opI0 fun _ _ _ _ _ _ _ q => add_int q
theorem op_sub : OpR X (binaryOp .Sub) (rI0 fun i j => .int (i - j)) := opI0 fun _ _ _ _ _ _ _ q => sub_int q
theorem op_mul : OpR X (binaryOp .Mult) (rI CMul fun i j => .int (i * j)) := opI fun _ _ _ _ _ _ _ hc q => mul_int q hc.ok
/-- // by a positive divisor -/
theorem op_fdiv : OpR X (binaryOp .FloorDiv) (rI CDiv fun i j => .int (i / j)) := opI fun i j _ _ _ _ _ hc q => by
  have h1 : (0 : Int) < j := hc.1
  have h2 : j < 1073741824 := hc.2
  exact floordiv_int (by omega) (by rw [Int.fdiv_eq_ediv_of_nonneg i (by omega)]; exact q) (.inl (PyProof.noPylong_small (by omega)))
/-- % by a positive divisor of any size -/
theorem op_mod : OpR X (binaryOp .Mod) (rI (fun _ j => 0 < j) fun i j => .int (i % j)) := opI fun i j _ _ _ _ _ hc q => by
  have h1 : (0 : Int) < j := hc
  exact mod_int' (by omega) (by rw [Int.fmod_eq_emod_of_nonneg i (by omega)]; exact q)

/-! ### bools among ints: n += (a < b) -/
end

/-! ### comparisons -/
/-- the scalars that == tells apart as data does -/
def scal : V → V → Bool
  | .non, .non => true | .non, .int _ => true | .int _, .non => true | .non, .bl _ => true | .bl _, .non => true | .non, .str _ => true | .str _, .non => true
  | .int _, .int _ => true | .bl _, .bl _ => true | .str _, .str _ => true | .byt _, .byt _ => true
  | .int _, .str _ => true | .str _, .int _ => true | .bl _, .str _ => true | .str _, .bl _ => true
  | _, _ => false
def rEq : R2 := fun x y H Q => scal x y = true ∧ Q (.bl (decide (x = y))) H
def rNe : R2 := fun x y H Q => scal x y = true ∧ Q (.bl (!decide (x = y))) H

theorem dec_int {i j : Int} : decide (V.int i = V.int j) = (i == j) := by
  rw [Bool.eq_iff_iff]
  simp
theorem dec_bl {i j : Bool} : decide (V.bl i = V.bl j) = (i == j) := by
  rw [Bool.eq_iff_iff]
  simp
theorem dec_str {i j : Str} : decide (V.str i = V.str j) = (i == j) := by
  rw [Bool.eq_iff_iff]
  simp
theorem dec_byt {i j : Array UInt8} : decide (V.byt i = V.byt j) = (i.toList == j.toList) := by
  rw [Bool.eq_iff_iff]
  cases i
  cases j
  simp

section
variable {X : Cx} {a b c : Expr} {ta tb tc : TE} {pos : Pos}
theorem fin_bl {pins : List (Addr × Obj)} {σ : St} {H : Hp} {s : Shared} {Q : VK} {k k' : Bool} (I : Inv X pins σ H s) (q : Q (.bl k) H) (e : k = k') : EP X pins σ Q (.bool k') s := by
  subst e
  exact ⟨.bl k, H, I, rfl, q⟩
theorem op_eq : OpR X (compareOp .Eq) rEq := by
  intro pins s σ H x y v u Q I rx ry h
  obtain ⟨hs, q⟩ := h
  cases x with
  | non =>
    cases rx
    cases y with
    | non => cases ry; exact PySem.EqNone.eq_none_none (fin_bl I q (by simp))
    | bl j => cases ry; exact PySem.EqNone.eq_none_bool (fin_bl I q (by simp))
    | int j => obtain ⟨t', rfl⟩ := ry; exact PySem.EqNone.eq_none_int (fin_bl I q (by simp))
    | str j => obtain ⟨t', rfl⟩ := ry; exact PySem.EqNone.eq_none_str (fin_bl I q (by simp))
    | _ => exact absurd (show false = true from hs) Bool.false_ne_true
  | bl i =>
    cases rx
    cases y with
    | non => cases ry; exact PySem.EqNone.eq_bool_none (fin_bl I q (by simp))
    | bl j => cases ry; exact eq_bool (fin_bl I q dec_bl)
    | str j => obtain ⟨t', rfl⟩ := ry; exact PySem.EqMixed.eq_bool_str (fin_bl I q (by simp))
    | _ => exact absurd (show false = true from hs) Bool.false_ne_true
  | int i =>
    obtain ⟨t, rfl⟩ := rx
    cases y with
    | non => cases ry; exact PySem.EqNone.eq_int_none (fin_bl I q (by simp))
    | int j => obtain ⟨t', rfl⟩ := ry; exact eq_int (fin_bl I q dec_int)
    | str j => obtain ⟨t', rfl⟩ := ry; exact PySem.EqMixed.eq_int_str (fin_bl I q (by simp))
    | _ => exact absurd (show false = true from hs) Bool.false_ne_true
  | str i =>
    obtain ⟨t, rfl⟩ := rx
    cases y with
    | non => cases ry; exact PySem.EqNone.eq_str_none (fin_bl I q (by simp))
    | bl j => cases ry; exact PySem.EqMixed.eq_str_bool (fin_bl I q (by simp))
    | int j => obtain ⟨t', rfl⟩ := ry; exact PySem.EqMixed.eq_str_int (fin_bl I q (by simp))
    | str j => obtain ⟨t', rfl⟩ := ry; exact eq_str (fin_bl I q dec_str)
    | _ => exact absurd (show false = true from hs) Bool.false_ne_true
  | byt i =>
    obtain ⟨t, rfl⟩ := rx
    cases y with
    | byt j => obtain ⟨t', rfl⟩ := ry; exact PySem.W.eq_bytes (fin_bl I q dec_byt)
    | _ => exact absurd (show false = true from hs) Bool.false_ne_true
  | _ => cases y <;> exact absurd (show false = true from hs) Bool.false_ne_true
theorem op_ne : OpR X (compareOp .NotEq) rNe := by
  intro pins s σ H x y v u Q I rx ry h
  obtain ⟨hs, q⟩ := h
  cases x with
  | non =>
    cases rx
    cases y with
    | non => cases ry; exact PySem.EqNone.ne_none_none (fin_bl I q (by simp))
    | bl j => cases ry; exact PySem.EqNone.ne_none_bool (fin_bl I q (by simp))
    | int j => obtain ⟨t', rfl⟩ := ry; exact PySem.EqNone.ne_none_int (fin_bl I q (by simp))
    | str j => obtain ⟨t', rfl⟩ := ry; exact PySem.EqNone.ne_none_str (fin_bl I q (by simp))
    | _ => exact absurd (show false = true from hs) Bool.false_ne_true
  | bl i =>
    cases rx
    cases y with
    | non => cases ry; exact PySem.EqNone.ne_bool_none (fin_bl I q (by simp))
    | bl j => cases ry; exact ne_bool (fin_bl I q (congrArg not dec_bl))
    | str j => obtain ⟨t', rfl⟩ := ry; exact PySem.EqMixed.ne_bool_str (fin_bl I q (by simp))
    | _ => exact absurd (show false = true from hs) Bool.false_ne_true
  | int i =>
    obtain ⟨t, rfl⟩ := rx
    cases y with
    | non => cases ry; exact PySem.EqNone.ne_int_none (fin_bl I q (by simp))
    | int j => obtain ⟨t', rfl⟩ := ry; exact ne_int (fin_bl I q (congrArg not dec_int))
    | str j => obtain ⟨t', rfl⟩ := ry; exact PySem.EqMixed.ne_int_str (fin_bl I q (by simp))
    | _ => exact absurd (show false = true from hs) Bool.false_ne_true
  | str i =>
    obtain ⟨t, rfl⟩ := rx
    cases y with
    | non => cases ry; exact PySem.EqNone.ne_str_none (fin_bl I q (by simp))
    | bl j => cases ry; exact PySem.EqMixed.ne_str_bool (fin_bl I q (by simp))
    | int j => obtain ⟨t', rfl⟩ := ry; exact PySem.EqMixed.ne_str_int (fin_bl I q (by simp))
    | str j => obtain ⟨t', rfl⟩ := ry; exact ne_str (fin_bl I q (congrArg not dec_str))
    | _ => exact absurd (show false = true from hs) Bool.false_ne_true
  | byt i =>
    obtain ⟨t, rfl⟩ := rx
    cases y with
    | byt j => obtain ⟨t', rfl⟩ := ry; exact PySem.W.ne_bytes (fin_bl I q (congrArg not dec_byt))
    | _ => exact absurd (show false = true from hs) Bool.false_ne_true
  | _ => cases y <;> exact absurd (show false = true from hs) Bool.false_ne_true

theorem op_lt : OpR X (compareOp .Lt) (rI0 fun i j => .bl (decide (i < j))) := opB0 fun _ _ _ _ _ _ _ q => lt_int q
theorem op_le : OpR X (compareOp .LtE) (rI0 fun i j => .bl (decide (i ≤ j))) := opB0 fun _ _ _ _ _ _ _ q => le_int q
theorem op_gt : OpR X (compareOp .Gt) (rI0 fun i j => .bl (decide (j < i))) := opB0 fun _ _ _ _ _ _ _ q => gt_int q
theorem op_ge : OpR X (compareOp .GtE) (rI0 fun i j => .bl (decide (j ≤ i))) := opB0 fun _ _ _ _ _ _ _ q => ge_int q

theorem nomark (b : Expr) {op : CmpOp} (h : op ≠ .In := by decide) (h2 : op ≠ .NotIn := by decide) : behindInMarks op b = false := by
  have e1 : (op == CmpOp.In) = false := by cases op <;> first | rfl | exact absurd rfl h
  have e2 : (op == CmpOp.NotIn) = false := by cases op <;> first | rfl | exact absurd rfl h2
  cases b <;> simp [behindInMarks, e1, e2]
/-- a comparison as a value; hm: nomark b, or (for in, not in) by with_unfolding_all rfl -/
theorem pe_cmpR {op : CmpOp} {r : R2} (ho : OpR X (compareOp op) r) (ha : PE X a ta) (hb : PE X b tb) (hm : behindInMarks op b = false) : PE X (.Compare a [op] [b] pos) (tOp r ta tb) := by
  intro pins s σ H Q I h
  exact wpAny_Compare1 (binT ha hb I h fun v u s2 x y H2 I2 rx ry q => ho pins s2 σ H2 x y v u Q I2 rx ry q) hm
/-- a reading of a value as a test -/
def tTest (t : TE) : TT := fun σ H Q => t σ H fun x H' => ∃ k, x = .bl k ∧ Q k H'
theorem pt_cmpR {op : CmpOp} {r : R2} (ho : OpR X (compareOp op) r) (ha : PE X a ta) (hb : PE X b tb) (hm : behindInMarks op b = false) : PT X (.Compare a [op] [b] pos) (tTest (tOp r ta tb)) := by
  intro pins s σ H Q I h
  refine wpAny_isTrue_Compare1 (thn (ha pins s σ H _ I h) fun v s1 ⟨x, H1, I1, r1, q1⟩ => thn (hb pins s1 σ H1 _ I1 q1) fun u s2 ⟨y, H2, I2, r2, q2⟩ =>
    thn (ho pins s2 σ H2 x y v u _ I2 r1 r2 q2) fun c s3 ⟨z, H3, I3, r3, k, e, q3⟩ => ?_) hm
  subst e
  cases r3
  exact wpAny_truthy_bool ⟨H3, I3, q3⟩

/-! ### truth -/
theorem line63 : (sizeLine : Nat) < 2 ^ 63 := by rw [sizeLine_eq]; decide

/-! ### strs and bytes -/

/-! ### scalar builtins, by CallR -/
theorem vals1 {x : V} {us : List Value} (r : Vals [x] us) : ∃ u, us = [u] ∧ RelV x u := by
  cases r with
  | cons r1 r2 => cases r2; exact ⟨_, rfl, r1⟩
end
end L2

namespace L2
open PySem PySem.Spec PyProof.Rows

/-! ### an instance, its attributes a map -/
structure ObjM (h : Heap) (x dx C : Addr) (mA : Str → Option Value) : Prop where
  obj : h.get? x = some (PySem.W.instObj C dx)
  ns : h.Ns1 dx mA
  ne : dx ≠ x

theorem lookIn_ns {h : Heap} {dx : Addr} {mA : Str → Option Value} (n : h.Ns1 dx mA) : ∃ od, h.get? dx = some od ∧ ∀ name, PySem.W.lookIn name od = some (mA name) := by
  obtain ⟨o, es, ep, ho, hd, hk, _, hm⟩ := n
  refine ⟨o, ho, fun name => ?_⟩
  have e := hm name
  unfold nsFind findBy at e
  rw [← Array.find?_toList] at e
  unfold PySem.W.lookIn
  rw [hd]
  dsimp only
  split
  · rename_i y q
    rw [q] at e
    exact congrArg some e
  · rename_i q
    rw [q] at e
    have a : es.toList.any (·.refKey) = false := by
      rw [List.any_eq_false]
      intro y hy
      obtain ⟨z, t, hkey⟩ := hk y (Array.mem_toList_iff.mp hy)
      simp [DictEntry.refKey, hkey]
    have a' : ¬ es.toList.any (·.refKey) = true := by rw [a]; exact Bool.false_ne_true
    rw [if_neg a']
    exact congrArg some e

theorem ObjM.look {h : Heap} {x dx C : Addr} {mA : Str → Option Value} (I : ObjM h x dx C mA) : ∃ od, PySem.W.InstAt h x (PySem.W.instObj C dx) C (some od) ∧ ∀ name, PySem.W.lookIn name od = some (mA name) :=
  let ⟨od, ho, hl⟩ := lookIn_ns I.ns
  ⟨od, ⟨I.obj, rfl, rfl, ho⟩, hl⟩

section
variable {prog : Program} {w : World} {A : Around} {E : Value → Shared → Prop} {s : Shared} {K : PySem.W.Frag} {x dx C f : Addr} {mA : Str → Option Value} {name : Str} {v : Value}

theorem get_map {expr : Bool} {Q : Value → Shared → Prop} (X : K.In s.heap) (I : ObjM s.heap x dx C mA) (hg : PySem.W.plainGet K C name = true) (hh : PySem.W.hasDictIn K C = true)
    (ha : PySem.W.findIn K (.ref C) name = some none) (hv : mA name = some v) (hv' : PySem.W.handedIn v = true) (h : Q v { s with toks := s.toks + 1 }) :
    wpAny (model prog w) A (getAttr (.ref x) name expr) Q E s := by
  obtain ⟨od, J, hl⟩ := I.look
  exact PySem.W.get_value X J (PySem.W.plainGet_of hg).1 (PySem.W.findObj_own hh ha rfl (by rw [hl, hv])) hv' h

theorem set_map {ns : List Str} {Q : Unit → Shared → Prop} (X : K.In s.heap) (I : ObjM s.heap x dx C mA)
    (hs : PySem.W.findIn K (.ref C) "__setattr__" = some (some (.builtin "object.__setattr__"))) (hp : PySem.W.plainOver K C = true) (ht : PySem.W.takerIn K C name = some none) (hh : PySem.W.hasDictIn K C = true)
    (hw : PySem.Within mA ns) (hsz : ns.length ≤ sizeLine)
    (h : ∀ h', ObjM h' x dx C (fun y => if y = name then some v else mA y) → Heap.SameBut dx s.heap h' → Q () { s with heap := h', toks := s.toks + 2 }) :
    wpAny (model prog w) A (setAttr (.ref x) name v) Q E s := by
  obtain ⟨od, J, hl⟩ := I.look
  refine PySem.W.set_plain X J hs (PySem.W.osa_open (s := { s with toks := s.toks + 1 }) (r := none) X J hp ht fun b => ?_)
  obtain ⟨cd, hc, hd'⟩ := PySem.W.any_some hh
  have hx : s.heap.get? x = some ⟨.ref C, some dx, .plain, #[]⟩ := I.obj
  refine wpAny_bind (wpAny_pure (wpAny_bind (wpAny_bind (wpAny_loadPart hx (wpAny_bind (PySem.W.Looks.here (s := { s with toks := s.toks + 1 }) (PySem.W.looks_clsIn X hc) ?_))))))
  rw [hd']
  refine wpAny_pure (a := some dx) (wpAny_bind (wpAny_pure (wpAny_bind ?_)))
  refine wpAny_nsSet1 (s := { s with toks := s.toks + 1 }) I.ns fun h' hn2 hs2 => ?_
  obtain ⟨oD, esD, epD, hoD, hdD, hcD⟩ := hn2.count (PySem.Within.cons name v hw)
  refine wpAny_bind (wpAny_lookBehind hoD (by rw [hdD]; exact pastItsLine_dict (Nat.le_trans hcD (by rw [List.length_cons]; omega))) ?_)
  exact wpAny_pure (h _ ⟨(hs2.2 _ (Ne.symm I.ne)).trans I.obj, hn2, I.ne⟩ hs2)

/-- C(..): the dict at the heap's end, the instance behind it; then its __init__ -/
theorem make_map {R : Result → Shared → Prop} {vs : List Value} {kw : List (Str × Value)} (X : K.In s.heap) (hm : PySem.W.makesIn K C = true)
    (hi : PySem.W.findIn K (.ref C) "__init__" = some (some (.ref f))) (hf : PySem.W.typeIn K (.ref f) = some (.type "function"))
    (h : codeAny (model prog w) (A.under (.builtin "type.__call__" ⟨.ref C :: vs, kw⟩)) (.call (.ref f) ⟨.ref (s.heap.objs.size + 1) :: vs, kw⟩) (PySem.W.InitBack (s.heap.objs.size + 1) R)
      { s with heap := (s.heap.push PySem.W.emptyDict).push (PySem.W.instObj C s.heap.objs.size) }) :
    codeAny (model prog w) A (.call (.ref C) ⟨vs, kw⟩) R s := by
  obtain ⟨hh, g, d, t, os⟩ := s
  exact PySem.W.make_core (PySem.W.makes_of X hm) (PySem.W.looks_findIn X hi) (fun self => PySem.W.bind_fn X self hf) (.inl rfl) h
end

/-! ### the attributes as a list of pairs -/
def putF (f : Str) (v : V) : List (Str × V) → List (Str × V)
  | [] => [(f, v)]
  | (g, x) :: r => if g = f then (g, v) :: r else (g, x) :: putF f v r
theorem lookup_putF (f g : Str) (v : V) : ∀ fs : List (Str × V), (putF f v fs).lookup g = if g = f then some v else fs.lookup g
  | [] => by
    show List.lookup g [(f, v)] = _
    by_cases h : g = f
    · have hb : (g == f) = true := beq_iff_eq.mpr h
      simp only [List.lookup, hb, if_pos h]
    · have hb : (g == f) = false := beq_eq_false_iff_ne.mpr h
      simp only [List.lookup, hb, if_neg h]
  | (k, x) :: r => by
    have ih := lookup_putF f g v r
    rw [show putF f v ((k, x) :: r) = (if k = f then (k, v) :: r else (k, x) :: putF f v r) from rfl]
    by_cases hk : k = f
    · rw [if_pos hk]
      by_cases h : g = k
      · have hb : (g == k) = true := beq_iff_eq.mpr h
        simp only [List.lookup, hb, if_pos (h.trans hk)]
      · have hb : (g == k) = false := beq_eq_false_iff_ne.mpr h
        simp only [List.lookup, hb, if_neg (fun e : g = f => h (e.trans hk.symm))]
    · rw [if_neg hk]
      by_cases h : g = k
      · have hb : (g == k) = true := beq_iff_eq.mpr h
        simp only [List.lookup, hb, if_neg (fun e : g = f => hk (h.symm.trans e))]
      · have hb : (g == k) = false := beq_eq_false_iff_ne.mpr h
        simp only [List.lookup, hb]
        exact ih
theorem keys_putF (f : Str) (v : V) : ∀ fs : List (Str × V), f ∈ (putF f v fs).map (·.1) ∧ ∀ g, g ∈ fs.map (·.1) → g ∈ (putF f v fs).map (·.1)
  | [] => ⟨by simp [putF], fun g h => by simp at h⟩
  | (k, x) :: r => by
    obtain ⟨i1, i2⟩ := keys_putF f v r
    rw [show putF f v ((k, x) :: r) = (if k = f then (k, v) :: r else (k, x) :: putF f v r) from rfl]
    by_cases hk : k = f
    · rw [if_pos hk]
      subst hk
      exact ⟨by simp, fun g h => by simpa using h⟩
    · rw [if_neg hk]
      refine ⟨?_, fun g h => ?_⟩
      · rw [List.map_cons]
        exact List.mem_cons_of_mem _ i1
      · rw [List.map_cons] at h ⊢
        rcases List.mem_cons.mp h with e | e
        · exact List.mem_cons.mpr (.inl e)
        · exact List.mem_cons_of_mem _ (i2 g e)
theorem length_putF (f : Str) (v : V) : ∀ fs : List (Str × V), (putF f v fs).length ≤ fs.length + 1
  | [] => by simp [putF]
  | (k, x) :: r => by
    have ih := length_putF f v r
    rw [show putF f v ((k, x) :: r) = (if k = f then (k, v) :: r else (k, x) :: putF f v r) from rfl]
    by_cases hk : k = f
    · rw [if_pos hk, List.length_cons, List.length_cons]; omega
    · rw [if_neg hk, List.length_cons, List.length_cons]; omega

theorem RelO.some_of {v : V} {o : Option Value} (r : RelO (some v) o) : ∃ u, o = some u ∧ RelV v u := by
  cases o with
  | none => exact (show False from r).elim
  | some u => exact ⟨u, rfl, r⟩
theorem handed_of {v : V} {u : Value} (r : RelV v u) : PySem.W.handedIn u = true := by
  cases v with
  | non => cases (show u = Value.none from r); rfl
  | bl b => cases (show u = Value.bool b from r); rfl
  | int i => obtain ⟨t, e⟩ := (show ∃ t, u = Value.int i t from r); cases e; rfl
  | str x => obtain ⟨t, e⟩ := (show ∃ t, u = Value.str x t from r); cases e; rfl
  | byt b => obtain ⟨t, e⟩ := (show ∃ t, u = Value.bytes b t from r); cases e; rfl
  | flt b => obtain ⟨t, e⟩ := (show ∃ t, u = Value.float b t from r); cases e; rfl
  | ref a => cases (show u = Value.ref a from r); rfl
  | ty n => cases (show u = Value.type n from r); rfl

section
variable {P : Program} {w : World} {H H' : Hp} {h h' : Heap} {a C dx : Addr} {fs fs' : List (Str × V)}
theorem ins_get (hok : HOk P w H h) (e : H a = some (.ins C dx fs)) : ∃ mA, ObjM h a dx C mA ∧ (∀ f, RelO (fs.lookup f) (mA f)) ∧ PySem.Within mA (fs.map (·.1)) ∧ fs.length ≤ 1000 ∧ H dx = some (.own a) := by
  obtain ⟨d, z, ne, ob, mA, n, r, q⟩ := (show ObjOk P w H h a (.ins C dx fs) from hok a _ e)
  exact ⟨mA, ⟨ob, n, ne⟩, r, q, z, d⟩
end

/-! ### what of the text a class must have -/
structure Cls (K : PySem.W.Frag) (C : Addr) : Prop where
  pg : PySem.W.plainGet K C Str.empty = true
  hd : PySem.W.hasDictIn K C = true
  po : PySem.W.plainOver K C = true
  sa : PySem.W.findIn K (.ref C) "__setattr__" = some (some (.builtin "object.__setattr__"))
theorem Cls.get {K : PySem.W.Frag} {C : Addr} (c : Cls K C) (f : Str) : PySem.W.plainGet K C f = true := c.pg
/-- no class of it has the name -/
def NoAttr (K : PySem.W.Frag) (C : Addr) (f : Str) : Prop := PySem.W.findIn K (.ref C) f = some none
theorem NoAttr.taker {K : PySem.W.Frag} {C : Addr} {f : Str} (n : NoAttr K C f) : PySem.W.takerIn K C f = some none := by
  unfold PySem.W.takerIn
  rw [show PySem.W.findIn K (.ref C) f = some none from n]
  rfl

section
variable {X : Cx} {pins : List (Addr × Obj)} {σ : St} {H : Hp} {s : Shared} {a C dx : Addr} {fs : List (Str × V)} {f : Str} {v : V} {A : Around} {E : Value → Shared → Prop}

theorem getattr_ok {b : Bool} {Q : Value → Shared → Prop} (I : Inv X pins σ H s) (e : H a = some (.ins C dx fs)) (c : Cls X.K C) (n : NoAttr X.K C f) (l : fs.lookup f = some v)
    (h : ∀ u s', Inv X pins σ H s' → RelV v u → Q u s') : wpAny (model X.prog X.w) A (getAttr (.ref a) f b) Q E s := by
  obtain ⟨mA, O, r, _, _, _⟩ := ins_get I.hok e
  obtain ⟨u, hu, ru⟩ := RelO.some_of (v := v) (o := mA f) (by rw [← l]; exact r f)
  exact get_map I.kIn O (c.get f) c.hd n hu (handed_of ru) (h u _ (I.tok _) ru)

theorem setattr_ok {y : V} {u : Value} {Q : Unit → Shared → Prop} (I : Inv X pins σ H s) (e : H a = some (.ins C dx fs)) (c : Cls X.K C) (n : NoAttr X.K C f) (hl : fs.length < 1000) (ry : RelV y u)
    (h : ∀ s', Inv X pins σ (upd H a (.ins C dx (putF f y fs))) s' → Q () s') : wpAny (model X.prog X.w) A (setAttr (.ref a) f u) Q E s := by
  obtain ⟨mA, O, r, wi, _, ho⟩ := ins_get I.hok e
  have hz : (fs.map (·.1)).length ≤ sizeLine := by rw [List.length_map, sizeLine_eq]; omega
  refine set_map I.kIn O c.sa c.po n.taker c.hd wi hz fun h' O' sb => h _ ?_
  have hd : ∃ o, h'.get? dx = some o := let ⟨o, _, _, e', _⟩ := O'.ns; ⟨o, e'⟩
  refine I.write (x := a) (e := dx) (by rw [e]; exact True.intro) (.inr ho) (fun b q hb z => (sb.2 b hb).trans z) hd ?_
  refine ⟨by rw [upd_ne O.ne]; exact ho, ?_, O.ne, O'.obj, _, O'.ns, fun g => ?_, fun g hg => ?_⟩
  · have := length_putF f y fs; omega
  · show RelO ((putF f y fs).lookup g) (if g = f then some u else mA g)
    rw [lookup_putF]
    by_cases q : g = f
    · rw [if_pos q, if_pos q]; exact ry
    · rw [if_neg q, if_neg q]; exact r g
  · by_cases q : g = f
    · rw [q]; exact (keys_putF f y fs).1
    · refine (keys_putF f y fs).2 g (wi g fun z => hg ?_)
      show (if g = f then some u else mA g) = none
      rw [if_neg q]; exact z

/-- a new instance, tracked, without attributes -/
theorem Inv.made (I : Inv X pins σ H s) : Inv X pins σ (upd (upd H s.heap.objs.size (.own (s.heap.objs.size + 1))) (s.heap.objs.size + 1) (.ins C s.heap.objs.size []))
    { s with heap := (s.heap.push PySem.W.emptyDict).push (PySem.W.instObj C s.heap.objs.size) } := by
  have e1 : (s.heap.push PySem.W.emptyDict).get? s.heap.objs.size = some PySem.W.emptyDict := Heap.get?_push_size s.heap rfl
  have e2 : ((s.heap.push PySem.W.emptyDict).push (PySem.W.instObj C s.heap.objs.size)).get? (s.heap.objs.size + 1) = some (PySem.W.instObj C s.heap.objs.size) := by
    have := Heap.get?_push_size (s.heap.push PySem.W.emptyDict) (o := PySem.W.instObj C s.heap.objs.size) rfl
    rwa [Heap.size_push] at this
  have e3 : (s.heap.push PySem.W.emptyDict).Ns s.heap.objs.size (fun _ => none) := ⟨PySem.W.emptyDict, #[], _, e1, rfl, (fun e he => absurd he (by simp)), fun _ => rfl⟩
  have I1 := I.laid (a := s.heap.objs.size) (o := .own (s.heap.objs.size + 1)) (h' := s.heap.push PySem.W.emptyDict) (t' := s.toks) (fun b u q => Heap.get?_push_of_some _ q) (Nat.le_refl _) ⟨_, e1⟩
  refine I1.laid (a := s.heap.objs.size + 1) (o := .ins C s.heap.objs.size []) (t' := s.toks) (fun b u q => Heap.get?_push_of_some _ q) (Nat.le_of_eq (Heap.size_push _ _)) ?_
  have ne : s.heap.objs.size ≠ s.heap.objs.size + 1 := Nat.ne_of_lt (Nat.lt_succ_self _)
  refine ⟨by rw [upd_ne ne, upd_same], Nat.zero_le _, ne, e2, fun _ => none, (Heap.Ns1.of_empty e3).at fun o q => Heap.get?_push_of_some _ q, fun _ => True.intro, fun y hy => absurd rfl hy⟩

/-- e.f where nothing but the object is asked: through attributeBase (super) and the last hold -/
theorem attr_of {prog : Program} {w : World} {env : Env} {e : Expr} {f : Str} {pos : Pos} {s : Shared} {Q : Value → Shared → Prop} (hb : attributeBase e f env (eval e env) = eval e env)
    (h : wpAny (model prog w) A (eval e env) (fun o s₁ => wpAny (model prog w) A (getAttr o f true) Q E s₁) E s) : wpAny (model prog w) A (eval (.Attribute e f pos) env) Q E s :=
  Attribute_any_ h (by rw [arm_eval_Attribute, hb])
end

/-! ### readings and rules -/
/-- e.f, an attribute of the instance -/
def tFld (K : PySem.W.Frag) (ta : TE) (f : Str) : TE := fun σ H Q => ta σ H fun x H1 => ∃ a C dx fs v, x = .ref a ∧ H1 a = some (.ins C dx fs) ∧ Cls K C ∧ NoAttr K C f ∧ fs.lookup f = some v ∧ Q v H1
/-- e.f = value -/
def sFld (K : PySem.W.Frag) (ta tv : TE) (f : Str) : TS := fun D σ H => tv σ H fun y H1 => ta σ H1 fun x H2 => ∃ a C dx fs, x = .ref a ∧ H2 a = some (.ins C dx fs) ∧ Cls K C ∧ NoAttr K C f ∧ fs.length < 1000 ∧
  D.nx σ (upd H2 a (.ins C dx (putF f y fs)))

section
variable {X : Cx} {o e value : Expr} {f : Str} {pos pos' tpos : Pos} {ta tv : TE}
theorem pe_fld (he : PE X e ta) (hb : attributeBase e f X.env (eval e X.env) = eval e X.env) : PE X (.Attribute e f pos) (tFld X.K ta f) := by
  intro pins s σ H Q I h
  refine attr_of hb (thn (he pins s σ H _ I h) fun u s1 ⟨x, H1, I1, rx, a, C, dx, fs, v, ex, ea, c, n, l, q⟩ => ?_)
  subst ex
  obtain rfl : u = Value.ref a := rx
  exact getattr_ok I1 ea c n l fun u' s2 I2 ru => ⟨v, H1, I2, ru, q⟩
theorem ps_fld (ha : PE X o ta) (hv : PE X value tv) (hs : swapsWith value (some (.Attribute o f pos')) pos.line X.env = pure false) : PS X (.Assign [.Attribute o f pos'] value pos) (sFld X.K ta tv f) := by
  intro pins s σ H D I h
  refine plainObj_wpAny_Assign_Attribute (thn (hv pins s σ H _ I h) fun u s1 ⟨y, H1, I1, ry, q⟩ => thn (ha pins s1 σ H1 _ I1 q) fun ov s2 ⟨x, H2, I2, rx, a, C, dx, fs, ex, ea, c, n, l, q2⟩ => ?_) hs
  subst ex
  obtain rfl : ov = Value.ref a := rx
  exact setattr_ok I2 ea c n l ry fun s3 I3 => ⟨σ, _, I3, q2⟩

end

/-! ### isinstance -/
section
variable {X : Cx} {pins : List (Addr × Obj)} {σ : St} {H : Hp} {s : Shared} {A : Around} {E : Value → Shared → Prop} {Q : Value → Shared → Prop} {c : Value} {b : Bool}
end
end L2

namespace L2
open PySem PySem.Spec PyProof.Rows

/-! ### room -/
structure Room (k : Nat) (A : Around) : Prop where
  hd : A.handled = none
  dp : A.depth + 3 * k + 5 < recursionLimit
  un : A.units + 16 * k + 200 < cLine
theorem Room.mono {j k : Nat} {A : Around} (r : Room k A) (h : j ≤ k) : Room j A := ⟨r.hd, by have := r.dp; omega, by have := r.un; omega⟩
theorem Room.deeper {k : Nat} {A : Around} (r : Room (k + 1) A) (env : Env) : Room k (A.deeper env) :=
  ⟨r.hd, by have := r.dp; show A.depth + 1 + 3 * k + 5 < _; omega, by have := r.un; show A.units + 3 + 16 * k + 200 < _; omega⟩
theorem make_depth {A : Around} {C : Addr} {us : List Value} {kw : List (Str × Value)} : (A.under (.builtin "type.__call__" ⟨.ref C :: us, kw⟩)).depth = A.depth + 1 := by
  first | rfl | simp [Around.under, Code.weight, Code.isCreation, Code.isGuard, Code.isCaller, Code.frames, Code.isFrame, guardIds]
theorem make_units {A : Around} {C : Addr} {us : List Value} {kw : List (Str × Value)} : (A.under (.builtin "type.__call__" ⟨.ref C :: us, kw⟩)).units = A.units + 1 := by
  first | rfl | simp [Around.under, Code.cUnits, Code.frames, Code.isFrame]
theorem Room.make {k : Nat} {A : Around} (r : Room (k + 1) A) (C : Addr) (us : List Value) (kw : List (Str × Value)) : Room k (A.under (.builtin "type.__call__" ⟨.ref C :: us, kw⟩)) :=
  ⟨r.hd, by have := r.dp; rw [make_depth]; omega, by have := r.un; rw [make_units]; omega⟩
theorem Room.depth {k : Nat} {A : Around} (r : Room k A) : A.depth < recursionLimit := by have := r.dp; omega
theorem Room.units {k : Nat} {A : Around} (r : Room k A) : A.units + 64 < cLine := by have := r.un; omega

/-! ### argument lists and displays -/
def tNil : TA := fun _ H Q => Q [] H
def tCons (ta : TE) (tr : TA) : TA := fun σ H Q => ta σ H fun x H1 => tr σ H1 fun xs H2 => Q (x :: xs) H2
section
variable {X : Cx} {e : Expr} {es : List Expr} {te : TE} {t : TA} {pos : Pos}
theorem pa_nil : PA X [] tNil := fun _ _ _ _ H Q I h => Calls.spliced_nil ⟨[], H, I, .nil, h⟩
theorem pa_cons (ha : PE X e te) (hr : PA X es t) (hs : starEach (e :: es) X.env = (false, eval e X.env) :: starEach es X.env := by rfl) : PA X (e :: es) (tCons te t) := by
  intro pos pins s σ H Q I h
  rw [hs]
  show wpAny _ _ (spliced ((false, eval e X.env) :: backTo pos (starEach es X.env))) _ _ s
  refine Calls.spliced_cons (thn (ha pins s σ H _ I h) fun u s1 ⟨x, H1, I1, r1, q1⟩ => ?_)
  exact thn (hr pos pins s1 σ H1 _ I1 q1) fun us s2 ⟨xs, H2, I2, r2, q2⟩ => ⟨x :: xs, H2, I2, .cons r1 r2, q2⟩

def tLst (t : TA) : TE := fun σ H Q => t σ H fun xs H1 => xs.length ≤ sizeLine ∧ ∀ p, H1 p = none → Q (.ref p) (upd H1 p (.lst xs))
theorem pe_lst (h : PA X es t) : PE X (.List es pos) (tLst t) := by
  intro pins s σ H Q I hq
  refine wpAny_List_spliced (thn (h pos pins s σ H _ I hq) fun us s1 ⟨xs, H1, I1, r, z, q⟩ => ⟨by rw [← r.length]; exact z, ?_⟩)
  have hf : H1 s1.heap.objs.size = none := I1.hok.fresh (Nat.le_refl _)
  refine ⟨.ref s1.heap.objs.size, upd H1 s1.heap.objs.size (.lst xs), I1.laid (t' := s1.toks) (fun b u e => Heap.get?_push_of_some _ e) (Nat.le_refl _) ?_, rfl, q _ hf⟩
  exact ⟨z, us, 0, r, Heap.get?_push_size _ rfl⟩
end

/-! ### what a def promises -/
/-- a def's promise: the bound arguments in the parameters' order, the heap, the wanted end, the wanted exception -/
abbrev Sp := List V → Hp → VK → XK → Prop
/-- how an exception lies behind a call (file 08 gives it): the callers' frames, abstract heap and state ahead of the call, the wish, the exception, the state -/
abbrev CXT := List Env → Hp → Shared → XK → Value → Shared → Prop

/-- the state at a call -/
structure Env0 (P : Program) (w : World) (K : PySem.W.Frag) (mg : Str → Option Value) (base : Heap) (A : Around) (outer : List Env) (s : Shared) (H : Hp) : Prop where
  frames : A.frames = some outer
  mod : Mod K mg base
  bs : ∀ b o, base.get? b = some o → s.heap.get? b = some o ∧ H b = none
  bsz : base.objs.size ≤ s.heap.objs.size
  funs : s.heap.FunFrames base outer
  frf : ∀ b ∈ frs outer, H b = none
  hok : HOk P w H s.heap
  bare : AllBare s.gens
/-- a call's end -/
def CE (outer : List Env) (P : Program) (w : World) (H : Hp) (s : Shared) (Q : VK) (u : Value) (s' : Shared) : Prop :=
  ∃ v H', s'.os = s.os ∧ AllBare s'.gens ∧ Un (frs outer) [] H H' s.heap s'.heap ∧ HOk P w H' s'.heap ∧ RelV v u ∧ Q v H'
def CR (CX : CXT) (outer : List Env) (P : Program) (w : World) (H : Hp) (s : Shared) (Q : VK) (E : XK) (r : Result) (s' : Shared) : Prop :=
  match r with
  | .ok (.ret u) => CE outer P w H s Q u s'
  | .ok _ => False
  | .error e => CX outer H s E e s'
structure FnOk (P : Program) (w : World) (K : PySem.W.Frag) (mg : Str → Option Value) (base : Heap) (CX : CXT) (k : Nat) (f : Addr) (fd : FuncData) (ps : List Str) (sp : Sp) : Prop where
  len : ∀ vs H Q E, sp vs H Q E → vs.length = ps.length
  run : ∀ (A : Around) (outer : List Env) (s : Shared) (H : Hp) (args : Args) (us : List Value) (vs : List V) (Q : VK) (E : XK), Room k A → Env0 P w K mg base A outer s H → BindsTo s fd args (ps.zip us) → Vals vs us → sp vs H Q E →
    codeAny (model P w) A (.call (.ref f) args) (CR CX outer P w H s Q E) s
theorem FnOk.mono {P : Program} {w : World} {K : PySem.W.Frag} {mg : Str → Option Value} {base : Heap} {CX : CXT} {j k : Nat} {f : Addr} {fd : FuncData} {ps : List Str} {sp : Sp} (F : FnOk P w K mg base CX j f fd ps sp) (h : j ≤ k) :
    FnOk P w K mg base CX k f fd ps sp := ⟨F.len, fun A outer s H args us vs Q E hr => F.run A outer s H args us vs Q E (hr.mono h)⟩
/-- a weaker promise -/
theorem FnOk.imp {P : Program} {w : World} {K : PySem.W.Frag} {mg : Str → Option Value} {base : Heap} {CX : CXT} {k : Nat} {f : Addr} {fd : FuncData} {ps : List Str} {sp sp' : Sp} (F : FnOk P w K mg base CX k f fd ps sp)
    (h : ∀ vs H Q E, sp' vs H Q E → sp vs H Q E) : FnOk P w K mg base CX k f fd ps sp' :=
  ⟨fun vs H Q E q => F.len vs H Q E (h _ _ _ _ q), fun A outer s H args us vs Q E hr he hb hv hs => F.run A outer s H args us vs Q E hr he hb hv (h _ _ _ _ hs)⟩

theorem Env0.make {P : Program} {w : World} {K : PySem.W.Frag} {mg : Str → Option Value} {base : Heap} {A : Around} {outer : List Env} {s : Shared} {H : Hp} (e : Env0 P w K mg base A outer s H) (C : Addr) (us : List Value) (kw : List (Str × Value)) :
    Env0 P w K mg base (A.under (.builtin "type.__call__" ⟨.ref C :: us, kw⟩)) outer s H := ⟨by first | exact e.frames | (simpa [Around.under, Code.envs, Code.isFrame, pushEnvs] using e.frames), e.mod, e.bs, e.bsz, e.funs, e.frf, e.hok, e.bare⟩

section
variable {X : Cx} {pins : List (Addr × Obj)} {σ : St} {H : Hp} {s s' : Shared}
/-- from a body: what a callee wants -/
theorem Inv.env0 (I : Inv X pins σ H s) : Env0 X.prog X.w X.K X.mg X.base X.A X.stack s H :=
  ⟨I.ok.frames, I.ok.mod, I.bs, Nat.le_trans I.ok.bsz I.sz, I.stack, I.stkFree, I.hok, I.bare⟩
/-- behind a call -/
theorem Inv.after {Q : VK} {u : Value} (I : Inv X pins σ H s) (h : CE X.stack X.prog X.w H s Q u s') : EP X pins σ Q u s' := by
  obtain ⟨v, H', os, bare, un, hok, r, q⟩ := h
  obtain ⟨hh, g, d, t, os'⟩ := s'
  obtain rfl : os' = s.os := os
  exact ⟨v, H', I.call (h' := hh) (g' := g) (d' := d) (t' := t) (ch := []) un hok bare (fun b z => absurd z (by simp)), r, q⟩
end

/-! ### calls -/
/-- f(..): the written arguments, then the defaults dvs; E: what is wanted of an exception -/
def tCall (sp : Sp) (dvs : List V) (E : XK) (t : TA) : TE := fun σ H Q => t σ H fun vs H1 => sp (vs ++ dvs) H1 Q E
/-- C(..): a new instance and its dict, then __init__ -/
def tMake (C : Addr) (sp : Sp) (dvs : List V) (E : XK) (t : TA) : TE := fun σ H Q => t σ H fun vs H1 => ∀ x dx, H1 x = none → H1 dx = none → dx ≠ x →
  sp (.ref x :: (vs ++ dvs)) (upd (upd H1 dx (.own x)) x (.ins C dx [])) (fun v H2 => v = .non ∧ Q (.ref x) H2) E

/-- how the parameters are bound: us the positional arguments, kw the keywords' values by name, ds the defaults that fill up -/
def Binds (K : PySem.W.Frag) (fd : FuncData) (ps : List Str) (ds : List Value) : Prop :=
  ∀ (s : Shared) (us : List Value), K.In s.heap → (us ++ ds).length = ps.length → BindsTo s fd ⟨us, []⟩ (ps.zip (us ++ ds))
/-- every parameter is given -/
theorem Binds.all {K : PySem.W.Frag} {fd : FuncData} {ps : List Str} (h : ∀ us : List Value, us.length = ps.length → bindArgs fd ⟨us, []⟩ = pure (ps.zip us)) : Binds K fd ps [] := fun s us _ hl => by
  rw [List.append_nil] at hl ⊢
  exact .of_eq (h us hl)

/-- an exception of a callee reaches what this body wants of exceptions -/
def Passes (CX : CXT) (X : Cx) (E : XK) : Prop := ∀ (pins : List (Addr × Obj)) (σ : St) (H : Hp) (s : Shared) (e : Value) (s' : Shared), Inv X pins σ H s → CX X.stack H s E e s' → X.xe e s'

section
variable {X : Cx} {CX : CXT} {k : Nat} {f C : Addr} {fd : FuncData} {ps : List Str} {sp : Sp} {dvs : List V} {ds : List Value} {E : XK} {x m : Str} {p pos apos : Pos} {e o : Expr} {es : List Expr} {ta : TE} {t : TA}

/-- the callee runs -/
theorem run_fn {pins : List (Addr × Obj)} {σ : St} {H : Hp} {s : Shared} {Q : VK} {us : List Value} {vs : List V} (F : FnOk X.prog X.w X.K X.mg X.base CX k f fd ps sp) (hr : Room k X.A) (hb : Binds X.K fd ps ds) (hd : Vals dvs ds) (hx : Passes CX X E)
    (I : Inv X pins σ H s) (r : Vals vs us) (h : sp (vs ++ dvs) H Q E) : wpAny (model X.prog X.w) X.A (call (.ref f) us) (EP X pins σ Q) X.xe s := by
  have r2 : Vals (vs ++ dvs) (us ++ ds) := r.append hd
  have hl : (us ++ ds).length = ps.length := by rw [← r2.length]; exact F.len _ _ _ _ h
  refine wpAny_call (codeAny_mono (F.run X.A X.stack s H ⟨us, []⟩ (us ++ ds) (vs ++ dvs) Q E hr I.env0 (hb s us I.kIn hl) r2 h) fun r s' hq => ?_)
  cases r with
  | error e => exact hx pins σ H s e s' I hq
  | ok fl =>
    cases fl with
    | ret u => exact I.after hq
    | next => exact False.elim hq
    | brk => exact False.elim hq
    | cont => exact False.elim hq

theorem pe_call (F : FnOk X.prog X.w X.K X.mg X.base CX k f fd ps sp) (hr : Room k X.A) (hg : Gl X x) (hm : X.mg x = some (.ref f)) (hk : PySem.W.keepIn X.K (.ref f) = true) (hb : Binds X.K fd ps ds) (hd : Vals dvs ds) (hx : Passes CX X E)
    (ha : PA X (e :: es) t) (hdb : (x == ("__debug__" : Str)) = false := by decide) (he : starEach (e :: es) X.env = (false, eval e X.env) :: starEach es X.env := by rfl) (hpl : (backTo pos (starEach es X.env)).any (·.1) = false := by rfl) :
    PE X (.Call (.Name x p) (e :: es) [] pos) (tCall sp dvs E t) := by
  intro pins s σ H Q I h
  refine wpAny_Call_Name_kw (ld_glob I hg hm ?_ hdb)
  refine PySem.W.callWith_K (h₀ := X.base) I.ok.mod.kin hk (thn (ha pos pins s σ H _ I h) fun us s1 ⟨vs, H1, I1, r, q⟩ => ⟨I1.kIn, ?_⟩) he hpl
  exact run_fn F hr hb hd hx I1 r q

/-- what a class must have to be made -/
structure Mk (K : PySem.W.Frag) (C f : Addr) : Prop where
  makes : PySem.W.makesIn K C = true
  init : PySem.W.findIn K (.ref C) "__init__" = some (some (.ref f))
  fn : PySem.W.isFn K (.ref f) = true
  kp : PySem.W.keepIn K (.ref C) = true

theorem run_make {pins : List (Addr × Obj)} {σ : St} {H : Hp} {s : Shared} {Q : VK} {us : List Value} {vs : List V} (M : Mk X.K C f) (F : FnOk X.prog X.w X.K X.mg X.base CX k f fd ps sp) (hr : Room (k + 1) X.A) (hb : Binds X.K fd ps ds) (hd : Vals dvs ds)
    (hx : Passes CX X E) (I : Inv X pins σ H s) (r : Vals vs us)
    (h : ∀ x dx, H x = none → H dx = none → dx ≠ x → sp (.ref x :: (vs ++ dvs)) (upd (upd H dx (.own x)) x (.ins C dx [])) (fun v H2 => v = .non ∧ Q (.ref x) H2) E) :
    wpAny (model X.prog X.w) X.A (call (.ref C) us) (EP X pins σ Q) X.xe s := by
  have hq := h (s.heap.objs.size + 1) s.heap.objs.size (I.hok.fresh (Nat.le_succ _)) (I.hok.fresh (Nat.le_refl _)) (Nat.ne_of_lt (Nat.lt_succ_self _))
  have I2 := Inv.made (C := C) I
  have r2 : Vals (V.ref (s.heap.objs.size + 1) :: (vs ++ dvs)) (Value.ref (s.heap.objs.size + 1) :: (us ++ ds)) := .cons rfl (r.append hd)
  have hl : (Value.ref (s.heap.objs.size + 1) :: us ++ ds).length = ps.length := by
    have e := r2.length
    rw [F.len _ _ _ _ hq] at e
    exact e.symm
  refine wpAny_call (make_map (f := f) I.kIn M.makes M.init (beq_iff_eq.mp M.fn) (codeAny_mono (F.run _ X.stack _ _ ⟨Value.ref (s.heap.objs.size + 1) :: us, []⟩ (Value.ref (s.heap.objs.size + 1) :: (us ++ ds)) _ _ E (hr.make C us [])
    (I2.env0.make C us []) (hb _ (Value.ref (s.heap.objs.size + 1) :: us) I2.kIn hl) r2 hq) fun r s' hq' => ?_))
  cases r with
  | error e => exact hx pins σ _ _ e s' I2 hq'
  | ok fl =>
    cases fl with
    | ret u =>
      obtain ⟨v, H', I3, rv, ev, q3⟩ := I2.after hq'
      subst ev
      exact ⟨rv, ⟨V.ref (s.heap.objs.size + 1), H', I3, rfl, q3⟩⟩
    | next => exact False.elim hq'
    | brk => exact False.elim hq'
    | cont => exact False.elim hq'
theorem pe_make0 (M : Mk X.K C f) (F : FnOk X.prog X.w X.K X.mg X.base CX k f fd ps sp) (hr : Room (k + 1) X.A) (hg : Gl X x) (hm : X.mg x = some (.ref C)) (hb : Binds X.K fd ps ds) (hd : Vals dvs ds) (hx : Passes CX X E)
    (hdb : (x == ("__debug__" : Str)) = false := by decide) : PE X (.Call (.Name x p) [] [] pos) (tMake C sp dvs E tNil) := by
  intro pins s σ H Q I h
  refine wpAny_Call_Name_kw (ld_glob I hg hm ?_ hdb)
  exact PySem.W.callWith_K0 I.kIn M.kp (run_make (us := []) M F hr hb hd hx I .nil h)
end

/-! ### keywords -/
section
variable {X : Cx} {CX : CXT} {k : Nat} {f C : Addr} {fd : FuncData} {ps ks : List Str} {sp : Sp} {E : XK} {x m : Str} {p pos apos kpos : Pos} {e o : Expr} {es : List Expr} {kws : List Keyword} {te ta : TE} {t tk : TA} {nm : Option Str}

variable {g : List Value → List Value → List Value} {gV : List V → List V → List V}
end

/-! ### a def's body keeps its promise -/
/-- names: the parameters first -/
structure FnScope (N P : List Str) (sc : Scope) : Prop where
  kind : sc.kind = .function
  co : sc.isCoroutine = false
  gen : sc.isGenerator = false
  nd : N.Nodup
  pre : N.take P.length = P
  par : ∀ x ∈ P, sc.names.lookup x = some .local ∨ sc.names.lookup x = some .cell
  nofree : ∀ y ∈ sc.names, y.2 ≠ .free

theorem bindL_out {kindOf : Str → Option NameKind} {x : Str} : ∀ {binds : List (Str × Value)} {m : Str → Option Value}, (∀ v, (x, v) ∉ binds) → bindL kindOf binds m x = m x
  | [], _, _ => rfl
  | (n, v) :: r, m, h => by
    unfold bindL
    rw [bindL_out fun w hw => h w (List.mem_cons_of_mem _ hw)]
    split
    · have : x ≠ n := by rintro rfl; exact h v List.mem_cons_self
      simp [this]
    · rfl
theorem bindC_out {kindOf : Str → Option NameKind} {x : Str} : ∀ {binds : List (Str × Value)} {m : Str → Option Value}, (∀ v, (x, v) ∉ binds) → bindC kindOf binds m x = m x
  | [], _, _ => rfl
  | (n, v) :: r, m, h => by
    unfold bindC
    rw [bindC_out fun w hw => h w (List.mem_cons_of_mem _ hw)]
    split
    · rfl
    · have : x ≠ n := by rintro rfl; exact h v List.mem_cons_self
      simp [this]
theorem bindL_get {kindOf : Str → Option NameKind} {x : Str} {v : Value} : ∀ {P : List Str} {vs : List Value} {i : Nat} {m : Str → Option Value}, P.Nodup → P[i]? = some x → vs[i]? = some v → kindOf x = some .local →
    bindL kindOf (P.zip vs) m x = some v
  | [], _, _, _, _, h, _, _ => by simp at h
  | _ :: _, [], _, _, _, _, h, _ => by simp at h
  | p :: P, w :: vs, 0, m, nd, h1, h2, hk => by
    simp at h1 h2; subst h1; subst h2
    show bindL kindOf ((p, w) :: P.zip vs) m p = _
    unfold bindL
    rw [bindL_out fun v hv => (List.nodup_cons.mp nd).1 (List.of_mem_zip hv).1, if_pos hk]
    simp
  | p :: P, w :: vs, i + 1, m, nd, h1, h2, hk => by
    show bindL kindOf ((p, w) :: P.zip vs) m x = _
    unfold bindL
    exact bindL_get (i := i) (List.nodup_cons.mp nd).2 (by simpa using h1) (by simpa using h2) hk
theorem bindC_get {kindOf : Str → Option NameKind} {x : Str} {v : Value} : ∀ {P : List Str} {vs : List Value} {i : Nat} {m : Str → Option Value}, P.Nodup → P[i]? = some x → vs[i]? = some v → kindOf x ≠ some .local →
    bindC kindOf (P.zip vs) m x = some v
  | [], _, _, _, _, h, _, _ => by simp at h
  | _ :: _, [], _, _, _, _, h, _ => by simp at h
  | p :: P, w :: vs, 0, m, nd, h1, h2, hk => by
    simp at h1 h2; subst h1; subst h2
    show bindC kindOf ((p, w) :: P.zip vs) m p = _
    unfold bindC
    rw [bindC_out fun v hv => (List.nodup_cons.mp nd).1 (List.of_mem_zip hv).1, if_neg hk]
    simp
  | p :: P, w :: vs, i + 1, m, nd, h1, h2, hk => by
    show bindC kindOf ((p, w) :: P.zip vs) m x = _
    unfold bindC
    exact bindC_get (i := i) (List.nodup_cons.mp nd).2 (by simpa using h1) (by simpa using h2) hk

/-- the names' values at the entry -/
def start (N : List Str) (vs : List V) : St := vs.map some ++ List.replicate (N.length - vs.length) none

/-- the context of a def's body, at its entry; an exception leaves the frame, then lies as CX says -/
def cxOf (CX : CXT) (P : Program) (w : World) (K : PySem.W.Frag) (mg : Str → Option Value) (base : Heap) (N : List Str) (qual : Str) (scope : Scope) (f : Addr) (cd : Value) (A : Around) (outer : List Env) (s : Shared) (H : Hp) (E : XK) : Cx where
  prog := P
  w := w
  K := K
  mg := mg
  base := base
  A := A.deeper (envOfC qual scope s.heap.objs.size f cd)
  N := N
  s_0 := s
  H_0 := H
  env := envOfC qual scope s.heap.objs.size f cd
  outer := outer
  stack := envOfC qual scope s.heap.objs.size f cd :: outer
  ex := []
  calm := true
  fn := fun _ => true
  pn := []
  xe := fun e s' => wpAny (model P w) (A.deeper (envOfC qual scope s.heap.objs.size f cd)) (leaving (envOfC qual scope s.heap.objs.size f cd) e) (fun _ s'' => CX outer H s E e s'') (fun e' s'' => CX outer H s E e' s'') s'

theorem cell_has {sc : Scope} {n : Nat} {x : Str} (h : sc.names.lookup x = some .cell) : ∃ c, (cellsFrom n sc.names []).lookup x = some c := by
  have q := PySem.W.cellsFrom_some sc.names n [] (.inl h)
  exact Option.isSome_iff_exists.mp q

theorem inv_start {CX : CXT} {P : Program} {w : World} {K : PySem.W.Frag} {mg : Str → Option Value} {base : Heap} {N ps : List Str} {qual : Str} {scope : Scope} {f : Addr} {cd : Value} {A : Around} {outer : List Env} {s s1 : Shared} {H : Hp} {E : XK} {us : List Value} {vs : List V}
    (S : FnScope N ps scope) (hd : A.handled = none) (e0 : Env0 P w K mg base A outer s H) (hl : vs.length = ps.length) (r : Vals vs us)
    (x : InCallC s s.heap.objs.size (bindL (envOfC qual scope s.heap.objs.size f cd).kindOf (ps.zip us) fun _ => none) (cellsFrom (s.heap.objs.size + 1) scope.names []) (bindC (envOfC qual scope s.heap.objs.size f cd).kindOf (ps.zip us) fun _ => none) s1) :
    Inv (cxOf CX P w K mg base N qual scope f cd A outer s H E) [] (start N vs) H s1 := by
  have hpl : ps.length ≤ N.length := by have := congrArg List.length S.pre; rw [List.length_take] at this; omega
  obtain ⟨h1, tk, rfl, hk⟩ := x.done
  have noA : ∀ b : Addr, b ∉ (cxOf CX P w K mg base N qual scope f cd A outer s H E).ex := fun b z => absurd (show b ∈ ([] : List Addr) from z) (by simp)
  refine ⟨⟨e0.mod, S.kind, rfl, rfl, Nat.le_refl _, fun y z c h1 h2 => ?_, fun y hy => ?_, fun y c _ h => ?_, fun _ => hd, Around.frames_deeper e0.frames, .inr ⟨rfl, rfl⟩, fun b z => absurd z (noA b), e0.bs, e0.bsz, fun b _ _ => noA b, fun b z => absurd z (noA b), e0.funs, e0.frf⟩,
    rfl, e0.bare, Un.kept hk, ⟨_, x.toInCall.ns, fun i y v h1 h2 h3 => ?_⟩, fun y c h => ⟨_, x.cell y c h⟩, e0.hok.fresh (Nat.le_refl _), fun y c h => ?_, fun p hp => absurd (show p ∈ ([] : List (Addr × Obj)) from hp) (by simp), e0.hok.kept hk, ?_⟩
  · exact name_of_addr x.apart (PySem.mem_of_lookup h1) (PySem.mem_of_lookup h2)
  · have hy : scope.names.lookup y = some .cell ∨ scope.names.lookup y = some .free := hy
    rcases hy with hy | hy
    · exact cell_has hy
    · exact absurd rfl (S.nofree _ (PySem.mem_of_lookup hy))
  · exact Nat.le_of_lt (x.above y c (PySem.mem_of_lookup h))
  · have hi : i < vs.length := by
      unfold start at h2
      by_cases hi : i < vs.length
      · exact hi
      · rw [List.getElem?_append_right (by simpa using hi)] at h2
        rw [List.getElem?_replicate] at h2
        split at h2 <;> cases h2
    have ha : vs[i]? = some v := by
      unfold start at h2
      rw [List.getElem?_append_left (by simpa using hi), List.getElem?_map] at h2
      cases e : vs[i]? with
      | none => rw [e] at h2; cases h2
      | some a => rw [e] at h2; cases h2; rfl
    obtain ⟨u, hu, rv⟩ := r.get ha
    have hp : ps[i]? = some y := by
      rw [← S.pre, List.getElem?_take_of_lt (by omega)]; exact h1
    have ndP : ps.Nodup := by rw [← S.pre]; exact S.nd.sublist (List.take_sublist _ _)
    refine ⟨u, rv, ?_⟩
    rcases S.par y (List.mem_of_getElem? hp) with k | k
    · exact .inl ⟨k, bindL_get ndP hp hu k⟩
    · obtain ⟨c, e⟩ := cell_has (n := s.heap.objs.size + 1) k
      refine .inr ⟨.inl k, c, e, ?_⟩
      have q := x.cell y c e
      rw [bindC_get ndP hp hu (by show scope.names.lookup y ≠ _; rw [k]; decide)] at q
      exact q
  · exact e0.hok.fresh (Nat.le_of_lt (x.above y c (PySem.mem_of_lookup h)))
  · unfold start
    show _ = N.length
    rw [List.length_append, List.length_map, List.length_replicate]
    omega

/-- THE RULE: a def (or a method) of the text, by its body. The body's reading t is chosen for each entry; it is run at the parameters' values -/
theorem fn_of {CX : CXT} {P : Program} {w : World} {K : PySem.W.Frag} {mg : Str → Option Value} {base : Heap} {k : Nat} {f : Addr} {name qual : Str} {params : Arguments} {body : List Stmt} {scope : Scope} {dV kV doc pm cdv ct oc : Value} {an od : Option Addr}
    {osl : Array (Option Value)} {N ps : List Str} {sp : Sp} (lk : K.lookup f = some ⟨oc, od, .func (PySem.W.fnOf name qual params body scope dV kV doc pm an cdv ct), osl⟩) (hcd : PySem.W.codeIn K cdv qual = true) (S : FnScope N ps scope)
    (len : ∀ vs H Q E, sp vs H Q E → vs.length = ps.length)
    (hbody : ∀ (A : Around) (outer : List Env) (s : Shared) (H : Hp) (vs : List V) (Q : VK) (E : XK), Room k (A.deeper (envOfC qual scope s.heap.objs.size f cdv)) → sp vs H Q E →
      ∃ t, PSs (cxOf CX P w K mg base N qual scope f cdv A outer s H E) body t ∧ t { nx := fun _ H' => Q .non H', rt := Q } (start N vs) H) :
    FnOk P w K mg base CX (k + 1) f (PySem.W.fnOf name qual params body scope dV kV doc pm an cdv ct) ps sp := by
  refine ⟨len, fun A outer s H args us vs Q E hr e0 hb r hsp => ?_⟩
  have hl := len _ _ _ _ hsp
  have KX : K.In s.heap := e0.mod.kin.keeps fun b o e => (e0.bs b o e).1
  have lim : s.heap.NoLimit := e0.mod.nolimit.keeps fun b o e => (e0.bs b o e).1
  have hkind : ∀ y ∈ ps.zip us, scope.names.lookup y.1 = some .local ∨ (scope.names.lookup y.1 = some .cell ∧ ((cellsFrom (s.heap.objs.size + 1) scope.names []).lookup y.1).isSome = true) := fun ⟨n, v⟩ hy => by
    rcases S.par n (List.of_mem_zip hy).1 with q | q
    · exact .inl q
    · exact .inr ⟨q, PySem.W.cellsFrom_some _ _ _ (.inl q)⟩
  refine codeAny_call_function hr.depth (KX _ _ lk) rfl S.co S.gen rfl (PySem.W.codeRec_of KX hcd) (hb _ _ _ _ ?_)
  refine wpAny_newFunctionEnv_cells S.kind hkind fun env he s1 x => ?_
  subst he
  refine ⟨lim.keeps x.toInCall.keep, codeAny_func ?_⟩
  obtain ⟨t, ht, hq⟩ := hbody A outer s H vs Q E (hr.deeper _) hsp
  have I : Inv (cxOf CX P w K mg base N qual scope f cdv A outer s H E) [] (start N vs) H s1 := inv_start S hr.hd e0 hl r x
  refine wpAny_mono (ht [] s1 (start N vs) H _ I hq) (fun fl s' hs => ?_) fun e s' hs => hs
  have fin : ∀ {σ' : St} {H' : Hp} {v : V} {u : Value}, Inv (cxOf CX P w K mg base N qual scope f cdv A outer s H E) [] σ' H' s' → RelV v u → Q v H' → CE outer P w H s Q u s' :=
    fun {σ' H' v u} J rv q => ⟨v, H', J.os, J.bare, J.base, J.hok, rv, q⟩
  cases fl with
  | ret u =>
    obtain ⟨v, σ', H', J, rv, q⟩ := hs
    exact fin J rv q
  | next =>
    obtain ⟨σ', H', J, q⟩ := hs
    exact fin (v := V.non) (u := Value.none) J rfl q
  | brk =>
    obtain ⟨_, _, _, q⟩ := hs
    exact False.elim q
  | cont =>
    obtain ⟨_, _, _, q⟩ := hs
    exact False.elim q
end L2

namespace L2
open PySem PySem.Spec PyProof.Rows
section
variable {X : Cx} {x : Str} {p pos : Pos} {e : Expr} {es : List Expr} {t : TA} {id T : String} {r : List V → Hp → VK → Prop}

def tCB (r : List V → Hp → VK → Prop) (t : TA) : TE := fun σ H Q => t σ H fun vs H1 => r vs H1 Q
/-- f(e, ..), f a built-in function -/
theorem pe_callB (hc : CallR X (.builtin id) r) (hg : Gl X x) (hm : X.mg x = none) (hv : bootBuiltins x = some (.builtin id)) (ha : PA X (e :: es) t) (hn : x ≠ "__name__" := by decide) (hdb : (x == ("__debug__" : Str)) = false := by decide)
    (he : starEach (e :: es) X.env = (false, eval e X.env) :: starEach es X.env := by rfl) (hpl : (backTo pos (starEach es X.env)).any (·.1) = false := by rfl) : PE X (.Call (.Name x p) (e :: es) [] pos) (tCB r t) := by
  intro pins s σ H Q I h
  refine wpAny_Call_Name_kw (ld_blt I hg hm hv ?_ hn hdb)
  exact PyProof.Rows.callWith_builtin1 (thn (ha pos pins s σ H _ I h) fun us s1 ⟨vs, H1, I1, r1, q1⟩ => hc pins s1 σ H1 vs us Q I1 r1 q1) he hpl
end
end L2

namespace HT
open PySem PyProof.Rows

section
open PySem.SeqAt
open PySem.AutoSeq1 (wpAny_loadPart')
open PySem.MeetsSeq PySem.MeetsSeq2 PySem.MeetsSeq3

end

section
variable {prog : Program} {w : World} {A : Around} {E : Value → Shared → Prop} {s : Shared}

/-! ### t[a:b], not the whole -/
/-- a slice's bound as a place among n (d where it is left out) -/
def sIx (n d : Nat) : Option Int → Nat
  | none => d
  | some v => if v < 0 then (v + (n : Int)).toNat else min v.toNat n
theorem sIx_nat (n d k : Nat) : sIx n d (some (k : Int)) = min k n := by
  show (if (k : Int) < 0 then ((k : Int) + (n : Int)).toNat else min (k : Int).toNat n) = min k n
  rw [if_neg (by omega), Int.toNat_natCast]

end
end HT

namespace L2
open PySem PySem.Spec PyProof.Rows

/-! ### the parts of a slice -/
abbrev TO := St → Hp → (Option Int → Hp → Prop) → Prop
/-- a slice's part (left out, or an int) -/
def PO (X : Cx) (e : Option Expr) (t : TO) : Prop :=
  ∀ (pins : List (Addr × Obj)) (s : Shared) (σ : St) (H : Hp) (Q : Option Int → Hp → Prop), Inv X pins σ H s → t σ H Q →
    wpAny (model X.prog X.w) X.A (evalPart e X.env) (fun u s' => ∃ o H', Inv X pins σ H' s' ∧ IsPart u o ∧ Q o H') X.xe s
def tNoPart : TO := fun _ H Q => Q none H
def tPart (t : TE) : TO := fun σ H Q => t σ H fun x H1 => ∃ i, x = .int i ∧ Q (some i) H1

section
variable {X : Cx} {e : Expr} {te : TE} {lo hi : Option Expr} {tl th : TO} {pos p2 : Pos}

theorem po_none : PO X none tNoPart := by
  intro pins s σ H Q I h
  rw [evalPart_none]
  exact wpAny_pure ⟨none, H, I, .none, h⟩
theorem po_some (h : PE X e te) : PO X (some e) (tPart te) := by
  intro pins s σ H Q I hw
  rw [evalPart_some]
  refine thn (h pins s σ H _ I hw) fun u s1 ⟨x, H1, I1, r1, q1⟩ => ?_
  obtain ⟨i, rfl, q⟩ := q1
  obtain ⟨t, rfl⟩ := r1
  exact ⟨some i, H1, I1, .int i t, q⟩

/-- what a slice of a value is, by values: the slice object stands at sl -/
def SlR (X : Cx) (r : V → Option Int → Option Int → Hp → VK → Prop) : Prop :=
  ∀ (pins : List (Addr × Obj)) (s : Shared) (σ : St) (H : Hp) (x : V) (v vl vu : Value) (lo hi : Option Int) (sl : Addr) (Q : VK), Inv X pins σ H s → RelV x v → s.heap.IsSliceOf sl vl vu .none → IsPart vl lo → IsPart vu hi → r x lo hi H Q →
    ∃ T id, typeLookup (.type T) "__getitem__" = pure (some (.builtin id)) ∧ s.TypeIs v T ∧ wpAny (model X.prog X.w) X.A (getItem v (.ref sl)) (EP X pins σ Q) X.xe s
def tSl (r : V → Option Int → Option Int → Hp → VK → Prop) (te : TE) (tl th : TO) : TE := fun σ H Q => te σ H fun x H1 => tl σ H1 fun l H2 => th σ H2 fun u H3 => r x l u H3 Q
/-- a[lo:hi], any a -/
theorem pe_slice {r : V → Option Int → Option Int → Hp → VK → Prop} (hr : SlR X r) (he : PE X e te) (hl : PO X lo tl) (hu : PO X hi th) : PE X (.Subscript e (.Slice lo hi none p2) pos) (tSl r te tl th) := by
  intro pins s σ H Q I h
  refine Subscript_ (thn (he pins s σ H _ I h) fun v s1 ⟨x, H1, I1, r1, q1⟩ => ?_)
  refine wpAny_Slice (thn (hl pins s1 σ H1 _ I1 q1) fun vl s2 ⟨l, H2, I2, pl, q2⟩ => thn (hu pins s2 σ H2 _ I2 q2) fun vu s3 ⟨u, H3, I3, pu, q3⟩ => ?_)
  rw [evalPart_none]
  refine wpAny_pure ?_
  have I4 : Inv X pins σ H3 { s3 with heap := s3.heap.push { cls := .type "slice", data := .fields #[vl, vu, .none] } } := I3.kept (t' := s3.toks) fun b ob q => Heap.get?_push_of_some _ q
  obtain ⟨T, id, hT, ht, hg⟩ := hr pins { s3 with heap := s3.heap.push { cls := .type "slice", data := .fields #[vl, vu, .none] } } σ H3 x v vl vu l u s3.heap.objs.size Q I4 r1 (Heap.IsSliceOf.new ..) pl pu q3
  show wpAny (model X.prog X.w) X.A (subscriptTail e (.Slice lo hi none p2) v (.ref s3.heap.objs.size)) (EP X pins σ Q) X.xe { s3 with heap := s3.heap.push { cls := .type "slice", data := .fields #[vl, vu, .none] } }
  exact tail_any (ops := [.ref s3.heap.objs.size, v]) ht hT hg (by with_unfolding_all rfl)

/-- the items of xs[lo:hi] -/
def cutV (xs : List V) (lo hi : Option Int) : List V := (xs.drop (HT.sIx xs.length 0 lo)).take (HT.sIx xs.length xs.length hi - HT.sIx xs.length 0 lo)
theorem cutV_length (xs : List V) (lo hi : Option Int) : (cutV xs lo hi).length ≤ xs.length := by
  unfold cutV
  rw [List.length_take, List.length_drop]
  omega

/-! ### t < u, t + u -/
end
end L2

namespace L2
open PySem PySem.Spec PyProof.Rows

/-! ### places -/
/-- the place that an index of any sign means -/
def ixN (n : Nat) (i : Int) : Option Nat := if 0 ≤ i then (if i < n then some i.toNat else none) else if -(n : Int) ≤ i then some (i + n).toNat else none
def atI {α : Type} (xs : List α) (i : Int) : Option α := (ixN xs.length i).bind fun j => xs[j]?
theorem ixN_seq {n : Nat} {i : Int} {j : Nat} (h : ixN n i = some j) : seqIndex? i n = some j ∧ j < n ∧ -(n : Int) ≤ i ∧ i < n := by
  unfold ixN at h
  by_cases h0 : 0 ≤ i
  · rw [if_pos h0] at h
    by_cases h1 : i < n
    · rw [if_pos h1] at h
      have e : i.toNat = j := Option.some.inj h
      exact ⟨by rw [seqIndex_of h0 h1, e], by omega, by omega, h1⟩
    · rw [if_neg h1] at h; cases h
  · rw [if_neg h0] at h
    by_cases h1 : -(n : Int) ≤ i
    · rw [if_pos h1] at h
      have e : (i + n).toNat = j := Option.some.inj h
      exact ⟨by rw [seqIndex_neg (by omega) h1, e], by omega, h1, by omega⟩
    · rw [if_neg h1] at h; cases h
theorem atI_get {α : Type} {xs : List α} {i : Int} {v : α} (h : atI xs i = some v) : ∃ j, seqIndex? i xs.length = some j ∧ xs[j]? = some v ∧ j < xs.length ∧ -(xs.length : Int) ≤ i ∧ i < xs.length := by
  unfold atI at h
  cases e : ixN xs.length i with
  | none => rw [e] at h; cases h
  | some j =>
    rw [e] at h
    obtain ⟨h1, h2, h3, h4⟩ := ixN_seq e
    exact ⟨j, h1, h, h2, h3, h4⟩
theorem atI_nat {α : Type} {xs : List α} {j : Nat} {v : α} (h : xs[j]? = some v) : atI xs (j : Int) = some v := by
  have hj : j < xs.length := (List.getElem?_eq_some_iff.mp h).1
  have e : ixN xs.length (j : Int) = some j := by
    unfold ixN
    rw [if_pos (by omega), if_pos (by omega)]; simp
  unfold atI; rw [e]; exact h

/-! ### what may be subscripted -/
/-- what stands as an index of a plain subscript -/
def PlainIx (b : Expr) : Prop := ∀ o i, subscripted b false o i = operate [o, i] (getItem o i)
/-- a subscript by values -/
def IxR (X : Cx) (r : R2) : Prop :=
  ∀ (value slice : Expr) (pins : List (Addr × Obj)) (s : Shared) (σ : St) (H : Hp) (x y : V) (v u : Value) (Q : VK), Inv X pins σ H s → RelV x v → RelV y u → r x y H Q →
    subscripted slice false v u = operate [v, u] (getItem v u) → wpAny (model X.prog X.w) X.A (subscriptTail value slice v u) (EP X pins σ Q) X.xe s
/-- a call of a builtin's method by values: the receiver, the arguments -/
def MtR (X : Cx) (id : String) (r : V → List V → Hp → VK → Prop) : Prop :=
  ∀ (pins : List (Addr × Obj)) (s : Shared) (σ : St) (H : Hp) (x : V) (xs : List V) (v : Value) (us : List Value) (Q : VK), Inv X pins σ H s → RelV x v → Vals xs us → r x xs H Q →
    wpAny (model X.prog X.w) X.A (call (.builtin id) (v :: us)) (EP X pins σ Q) X.xe s
section
variable {X : Cx} {a b : Expr} {ta tb : TE} {pos : Pos}
/-- a[b] -/
theorem pe_ix {r : R2} (hr : IxR X r) (ha : PE X a ta) (hb : PE X b tb) (hs : PlainIx b) : PE X (.Subscript a b pos) (tOp r ta tb) := by
  intro pins s σ H Q I h
  exact Subscript_ (binT ha hb I h fun v u s2 x y H2 I2 rx ry q => hr a b pins s2 σ H2 x y v u Q I2 rx ry q (hs _ _))

def rIxL (K : PySem.W.Frag) : R2 := fun x y H Q => ∃ p xs i v, x = .ref p ∧ y = .int i ∧ SqL K H p xs ∧ atI xs i = some v ∧ Q v H
def rIxT (K : PySem.W.Frag) : R2 := fun x y H Q => ∃ p xs i v, x = .ref p ∧ y = .int i ∧ SqT K H p xs ∧ atI xs i = some v ∧ Q v H
theorem ix_list : IxR X (rIxL X.K) := by
  intro value slice pins s σ H x y v u Q I rx ry h hs
  obtain ⟨p, xs, i, z, rfl, rfl, hq, he, q⟩ := h
  cases rx
  obtain ⟨t, rfl⟩ := ry
  obtain ⟨its, r, pl, hz⟩ := I.list hq
  obtain ⟨j, h1, h2, h3, h4, h5⟩ := atI_get he
  obtain ⟨w, ew, rw'⟩ := r.get h2
  have hl := r.length
  have hn := line63
  have fin : EP X pins σ Q w s := ⟨z, H, I, rw', q⟩
  by_cases h0 : 0 ≤ i
  · have hj : i.toNat = j := by
      rw [seqIndex_of h0 h5] at h1
      exact Option.some.inj h1
    exact item_listR pl.isList h0 (by omega) (by rw [hj]; simpa using ew) fin hs
  · have hj : (i + (its.toArray.size : Int)).toNat = j := by
      rw [seqIndex_neg (by omega) h4] at h1
      rw [List.size_toArray, ← hl]
      exact Option.some.inj h1
    exact subscriptTail_builtinR (x := w) pl.isList.typeIs slot_list_getitem.lookup
      (wpAny_getItem_list_neg (Q := fun r s' => r = w ∧ EP X pins σ Q r s') pl.isList (by omega) (by rw [List.size_toArray] <;> omega) (by omega) (by rw [hj]; simpa using ew) ⟨rfl, fin⟩) hs
theorem ix_tup : IxR X (rIxT X.K) := by
  intro value slice pins s σ H x y v u Q I rx ry h hs
  obtain ⟨p, xs, i, z, rfl, rfl, hq, he, q⟩ := h
  cases rx
  obtain ⟨t, rfl⟩ := ry
  obtain ⟨its, r, pl, hz⟩ := I.tuple hq
  obtain ⟨j, h1, h2, h3, h4, h5⟩ := atI_get he
  obtain ⟨w, ew, rw'⟩ := r.get h2
  have hl := r.length
  have hn := line63
  have fin : EP X pins σ Q w s := ⟨z, H, I, rw', q⟩
  exact subscriptTail_builtinR (x := w) pl.typeIs slot_tuple_getitem.lookup
    (getItem_tuple (j := j) (Q := fun r s' => r = w ∧ EP X pins σ Q r s') pl (by omega) (by omega) (by rw [List.size_toArray, ← hl]; exact h1) (by simpa using ew) ⟨rfl, fin⟩) hs

/-! ### xs[i] = v, any sign -/

/-! ### slices -/
theorem slice_bounds (lo hi : Option Int) (n : Nat) : (sliceBounds lo hi none n).1 = ((HT.sIx n 0 lo : Nat) : Int) ∧ (sliceBounds lo hi none n).2.1 = ((HT.sIx n n hi : Nat) : Int) ∧ (sliceBounds lo hi none n).2.2 = 1 := by
  refine ⟨?_, ?_, rfl⟩
  · cases lo with
    | none => simp [sliceBounds, HT.sIx]
    | some i =>
      simp only [sliceBounds, HT.sIx, Option.getD_none, show (1 : Int) > 0 by decide, if_true]
      by_cases h : i < 0
      · simp only [h, if_true] <;> omega
      · simp only [h, if_false] <;> omega
  · cases hi with
    | none => simp [sliceBounds, HT.sIx]
    | some i =>
      simp only [sliceBounds, HT.sIx, Option.getD_none, show (1 : Int) > 0 by decide, if_true]
      by_cases h : i < 0
      · simp only [h, if_true] <;> omega
      · simp only [h, if_false] <;> omega
theorem slicePick_cut (its : List Value) (lo hi : Option Int) : slicePick its.toArray lo hi none = ((its.drop (HT.sIx its.length 0 lo)).take (HT.sIx its.length its.length hi - HT.sIx its.length 0 lo)).toArray := by
  obtain ⟨h1, h2, h3⟩ := slice_bounds lo hi its.toArray.size
  unfold slicePick
  rw [h1, h2, h3]
  simp only [sliceRange_one, pick_run, List.size_toArray] <;> rfl
/-- xs[lo:hi] of a list: a new list -/
def rSlL (K : PySem.W.Frag) : V → Option Int → Option Int → Hp → VK → Prop := fun x lo hi H Q => ∃ a xs, x = .ref a ∧ SqL K H a xs ∧ ∀ p, H p = none → Q (.ref p) (upd H p (.lst (cutV xs lo hi)))
theorem sl_list : SlR X (rSlL X.K) := by
  intro pins s σ H x v vl vu lo hi sl Q I rx hs pl pu h
  obtain ⟨a, xs, rfl, hx, q⟩ := h
  cases rx
  obtain ⟨its, r, ht, hz⟩ := I.list hx
  have hlen := r.length
  refine ⟨"list", _, slot_list_getitem.lookup, ht.isList.typeIs, ?_⟩
  refine wpAny_getItem_list_slice ht.isList hs pl pu .none (by simp) ?_ (by rw [List.size_toArray] <;> omega)
  rw [slicePick_cut, ← hlen]
  refine ⟨.ref s.heap.objs.size, _, I.laid (t' := s.toks) (o := .lst (cutV xs lo hi)) (fun b ob q => Heap.get?_push_of_some _ q) (Nat.le_refl _) ?_, rfl, q _ (I.hok.fresh (Nat.le_refl _))⟩
  exact ⟨Nat.le_trans (cutV_length xs lo hi) hz, _, 0, (r.drop (HT.sIx xs.length 0 lo)).take (HT.sIx xs.length xs.length hi - HT.sIx xs.length 0 lo), Heap.get?_push_size _ rfl⟩

/-! ### in, not in: flat items -/
def flatV : V → Bool
  | .non => true
  | .bl _ => true
  | .int _ => true
  | .str _ => true
  | _ => false
/-- == of flat values -/
def eqV : V → V → Bool
  | .non, .non => true
  | .bl a, .bl b => a == b
  | .bl a, .int b => (if a then 1 else 0) == b
  | .int a, .bl b => a == (if b then 1 else 0)
  | .int a, .int b => a == b
  | .str a, .str b => a == b
  | _, _ => false
theorem eqAt_V {A : Around} {s : Shared} {y x : V} {u v : Value} (ry : RelV y u) (rx : RelV x v) (fy : flatV y = true) (fx : flatV x = true) : SeqAt.EqAt A s u v (eqV y x) := by
  cases y with
  | non =>
    cases ry
    cases x with
    | non => cases rx; exact SeqAt.EqAt.same _
    | bl b => cases rx; exact SeqAt.EqAt.none_bool b
    | int b => obtain ⟨t, rfl⟩ := rx; exact SeqAt.EqAt.none_int b t
    | str b => obtain ⟨t, rfl⟩ := rx; exact SeqAt.EqAt.none_str b t
    | _ => exact absurd (show false = true from fx) Bool.false_ne_true
  | bl a =>
    cases ry
    cases x with
    | non => cases rx; exact SeqAt.EqAt.bool_none a
    | bl b => cases rx; exact SeqAt.EqAt.bool_bool a b
    | int b => obtain ⟨t, rfl⟩ := rx; exact SeqAt.EqAt.bool_int a b t
    | str b => obtain ⟨t, rfl⟩ := rx; exact SeqAt.EqAt.bool_str a b t
    | _ => exact absurd (show false = true from fx) Bool.false_ne_true
  | int a =>
    obtain ⟨t', rfl⟩ := ry
    cases x with
    | non => cases rx; exact SeqAt.EqAt.int_none a t'
    | bl b => cases rx; exact SeqAt.EqAt.int_bool a t' b
    | int b => obtain ⟨t, rfl⟩ := rx; exact SeqAt.EqAt.int_int a t' b t
    | str b => obtain ⟨t, rfl⟩ := rx; exact SeqAt.EqAt.int_str a t' b t
    | _ => exact absurd (show false = true from fx) Bool.false_ne_true
  | str a =>
    obtain ⟨t', rfl⟩ := ry
    cases x with
    | non => cases rx; exact SeqAt.EqAt.str_none a t'
    | bl b => cases rx; exact SeqAt.EqAt.str_bool a t' b
    | int b => obtain ⟨t, rfl⟩ := rx; exact SeqAt.EqAt.str_int a t' b t
    | str b => obtain ⟨t, rfl⟩ := rx; exact SeqAt.EqAt.str_str a t' b t
    | _ => exact absurd (show false = true from fx) Bool.false_ne_true
  | _ => exact absurd (show false = true from fy) Bool.false_ne_true
/-- the items' answers, read off the values (a value's own answer does not lean on its token) -/
def eqU (x : V) (u : Value) : Bool := match u with
  | .none => eqV .non x
  | .bool b => eqV (.bl b) x
  | .int i _ => eqV (.int i) x
  | .str z _ => eqV (.str z) x
  | _ => false
theorem eqU_of {x y : V} {u : Value} (r : RelV y u) (f : flatV y = true) : eqU x u = eqV y x := by
  cases y with
  | non => cases r; rfl
  | bl b => cases r; rfl
  | int i => obtain ⟨t, rfl⟩ := r; rfl
  | str z => obtain ⟨t, rfl⟩ := r; rfl
  | _ => exact absurd (show false = true from f) Bool.false_ne_true
theorem any_eqU {x : V} : ∀ {xs : List V} {us : List Value}, Vals xs us → xs.all flatV = true → us.any (eqU x) = xs.any fun y => eqV y x
  | _, _, .nil, _ => rfl
  | y :: xs, u :: us, .cons r t, f => by
    rw [List.all_cons, Bool.and_eq_true] at f
    rw [List.any_cons, List.any_cons, eqU_of r f.1, any_eqU t f.2]
theorem mem_eqAt {A : Around} {s : Shared} {x : V} {v : Value} (rx : RelV x v) (fx : flatV x = true) : ∀ {xs : List V} {us : List Value}, Vals xs us → xs.all flatV = true → ∀ u ∈ us, SeqAt.EqAt A s u v (eqU x u)
  | _, _, .nil, _ => fun u hu => by cases hu
  | y :: xs, u :: us, .cons r t, f => fun u' hu => by
    rw [List.all_cons, Bool.and_eq_true] at f
    rcases List.mem_cons.mp hu with rfl | hu
    · rw [eqU_of r f.1]; exact eqAt_V r rx f.1 fx
    · exact mem_eqAt rx fx t f.2 u' hu
def inV (x : V) (xs : List V) : Bool := xs.any fun y => eqV y x
/-- x in a list or tuple of flat items -/
def rIn (K : PySem.W.Frag) (neg : Bool) : R2 := fun x y H Q => ∃ p xs, y = .ref p ∧ (SqL K H p xs ∨ SqT K H p xs) ∧ flatV x = true ∧ xs.all flatV = true ∧ Q (.bl (if neg then !inV x xs else inV x xs)) H
theorem op_in_seq : OpR X (compareOp .In) (rIn X.K false) := by
  intro pins s σ H x y v u Q I rx ry h
  obtain ⟨p, xs, rfl, hq, fx, fs, q⟩ := h
  cases ry
  rcases hq with hq | hq
  · obtain ⟨its, r, pl, hz⟩ := I.list hq
    refine SeqAt.in_listAt (eqU x) pl.isList (fun w hw => mem_eqAt rx fx r fs w (by simpa using hw)) ⟨.bl _, H, I, rfl, ?_⟩
    rw [show its.toArray.any (eqU x) = its.any (eqU x) by simp, any_eqU r fs]
    exact q
  · obtain ⟨its, r, pl, hz⟩ := I.tuple hq
    refine SeqAt.in_tupleAt (eqU x) pl (fun w hw => mem_eqAt rx fx r fs w (by simpa using hw)) ⟨.bl _, H, I, rfl, ?_⟩
    rw [show its.toArray.any (eqU x) = its.any (eqU x) by simp, any_eqU r fs]
    exact q
theorem op_notIn_seq : OpR X (compareOp .NotIn) (rIn X.K true) := by
  intro pins s σ H x y v u Q I rx ry h
  obtain ⟨p, xs, rfl, hq, fx, fs, q⟩ := h
  cases ry
  rcases hq with hq | hq
  · obtain ⟨its, r, pl, hz⟩ := I.list hq
    refine SeqAt.notIn_listAt (eqU x) pl.isList (fun w hw => mem_eqAt rx fx r fs w (by simpa using hw)) ⟨.bl _, H, I, rfl, ?_⟩
    rw [show its.toArray.any (eqU x) = its.any (eqU x) by simp, any_eqU r fs]
    exact q
  · obtain ⟨its, r, pl, hz⟩ := I.tuple hq
    refine SeqAt.notIn_tupleAt (eqU x) pl (fun w hw => mem_eqAt rx fx r fs w (by simpa using hw)) ⟨.bl _, H, I, rfl, ?_⟩
    rw [show its.toArray.any (eqU x) = its.any (eqU x) by simp, any_eqU r fs]
    exact q

/-! ### len, list(x), tuple(x) of any list or tuple that is read -/
theorem call_len_seq : CallR X (.builtin "len") (fun xs H Q => ∃ p ys, xs = [.ref p] ∧ (SqL X.K H p ys ∨ SqT X.K H p ys) ∧ Q (.int ys.length) H) := by
  intro pins s σ H xs us Q I r h
  obtain ⟨p, ys, rfl, hq, q⟩ := h
  obtain ⟨u, rfl, rx⟩ := vals1 r
  cases rx
  have hn := line63
  rcases hq with hq | hq
  · obtain ⟨its, r', pl, hz⟩ := I.list hq
    have hlen := r'.length
    exact Calls.call_len_list pl.isList (by simp only [List.size_toArray] <;> omega) ⟨.int ys.length, H, I.tok _, ⟨s.toks + 1, by rw [List.size_toArray, hlen]⟩, q⟩
  · obtain ⟨its, r', pl, hz⟩ := I.tuple hq
    have hlen := r'.length
    exact len_tuple pl (by simp only [List.size_toArray] <;> omega) ⟨.int ys.length, H, I.tok _, ⟨s.toks + 1, by rw [List.size_toArray, hlen]⟩, q⟩

/-! ### the call of a builtin's method: o.m(..) -/
/-- the value is of that builtin type -/
def tyV (K : PySem.W.Frag) (T : String) (x : V) (H : Hp) : Prop := match x with
  | .str _ => T = "str"
  | .int _ => T = "int"
  | .ref p => (T = "list" ∧ ∃ xs, SqL K H p xs) ∨ (T = "tuple" ∧ ∃ o, K.lookup p = some o ∧ o.cls = .type "tuple" ∧ o.dict = none) ∨
      (T = "dict" ∧ ((∃ kvs, H p = some (.dK kvs)) ∨ ∃ kvs, H p = some (.dT kvs))) ∨ (T = "set" ∧ ∃ S n, H p = some (.set S n))
  | _ => False
theorem tyV_is {pins : List (Addr × Obj)} {σ : St} {H : Hp} {s : Shared} {T : String} {x : V} {v : Value} (I : Inv X pins σ H s) (r : RelV x v) (ty : tyV X.K T x H) :
    s.TypeIs v T ∧ ∀ a, v = .ref a → ∃ ob, s.heap.get? a = some ob ∧ ob.dict = none := by
  cases x with
  | str z =>
    obtain ⟨t, rfl⟩ := r
    cases (show T = "str" from ty)
    exact ⟨typeIs_str s z t, fun _ e => nomatch e⟩
  | int i =>
    obtain ⟨t, rfl⟩ := r
    cases (show T = "int" from ty)
    exact ⟨typeIs_int s i t, fun _ e => nomatch e⟩
  | ref p =>
    cases r
    rcases ty with ⟨rfl, xs, hq⟩ | ⟨rfl, o, hk, hc, hd⟩ | ⟨rfl, hk⟩ | ⟨rfl, S, n, hk⟩
    · obtain ⟨its, _, pl, _⟩ := I.list hq
      refine ⟨pl.isList.typeIs, fun a e => ?_⟩
      cases e
      obtain ⟨o, n, e, c, hd, _⟩ := pl
      exact ⟨o, e, hd⟩
    · refine ⟨⟨o, I.kIn p o hk, hc⟩, fun a e => ?_⟩
      cases e
      exact ⟨o, I.kIn _ o hk, hd⟩
    · have z : ∃ o, s.heap.get? p = some o ∧ o.ExactDict := by
        rcases hk with ⟨kvs, hk⟩ | ⟨kvs, hk⟩
        · obtain ⟨_, _, _, _, o, _, _, e, ex, _⟩ := I.hok p _ hk
          exact ⟨o, e, ex⟩
        · obtain ⟨_, _, _, _, o, _, _, e, ex, _⟩ := I.hok p _ hk
          exact ⟨o, e, ex⟩
      obtain ⟨o, e, ex⟩ := z
      refine ⟨⟨o, e, ex.1⟩, fun a e2 => ?_⟩
      cases e2
      exact ⟨o, e, ex.2.1⟩
    · obtain ⟨o, _, _, _, e, ex, _⟩ := I.hok p _ hk
      refine ⟨⟨o, e, ex.1⟩, fun a e2 => ?_⟩
      cases e2
      exact ⟨o, e, ex.2.1⟩
  | _ => exact False.elim ty
def tBM (K : PySem.W.Frag) (T : String) (r : V → List V → Hp → VK → Prop) (to : TE) (t : TA) : TE := fun σ H Q => to σ H fun x H1 => tyV K T x H1 ∧ t σ H1 fun xs H2 => r x xs H2 Q
variable {o e : Expr} {es : List Expr} {to : TE} {t : TA} {name : Str} {apos cpos : Pos} {T id : String} {r : V → List V → Hp → VK → Prop}
theorem pe_bm (pa : PlainAttrs T) (slot : Slot T name id) (hty : typeOf (.builtin id) = pure (.type "method_descriptor")) (hm : MtR X id r) (ho : PE X o to) (ha : PA X (e :: es) t)
    (hbase : attributeBase o name X.env (eval o X.env) = eval o X.env := by rfl)
    (hfew : ((backTo cpos (starEach (e :: es) X.env)).all (fun x => !x.1) && (backToKw cpos (keywordEach [] X.env)).all (fun x => x.1.isSome)
      && decide ((e :: es).length + ([] : List Keyword).length + (if ([] : List Keyword).isEmpty then 0 else 1) < 30)) = true := by rfl)
    (hline : (apos.endLine == cpos.line) = true := by rfl) (hs : starEach (e :: es) X.env = (false, eval e X.env) :: starEach es X.env := by rfl) (hplain : (backTo cpos (starEach es X.env)).any (·.1) = false := by rfl) :
    PE X (.Call (.Attribute o name apos) (e :: es) [] cpos) (tBM X.K T r to t) := by
  intro pins s σ H Q I h
  refine wpAny_Call_method_late hbase hfew hline rfl (thn (ho pins s σ H _ I h) fun v s1 ⟨x, H1, I1, r1, ty, q1⟩ => ?_)
  obtain ⟨h1, h2⟩ := tyV_is I1 r1 ty
  refine ⟨T, id, pa, slot, hty, h1, h2, ?_⟩
  have hA := ha cpos pins s1 σ H1 _ I1 q1
  rw [hs] at hA ⊢
  refine Calls.callWith_builtin (by show (false || (backTo cpos (starEach es X.env)).any (·.1)) = false; rw [hplain] <;> rfl) (Calls.evalArgs_plain ?_)
  exact thn hA fun us s2 ⟨vs, H2, I2, r2, q2⟩ => hm pins s2 σ H2 x vs v us Q I2 r1 r2 q2
/- xs.append(e), list.index on a module's tuple .. are MtR facts of 06m -/
end
end L2

namespace L2
open PySem PySem.Spec PyProof.Rows

def MtM (X : Cx) (id : String) (r : V → List V → Hp → VK → Prop) : Prop :=
  ∀ (pins : List (Addr × Obj)) (s : Shared) (σ : St) (H : Hp) (x : V) (xs : List V) (v : Value) (us : List Value) (Q : VK), Inv X pins σ H s → RelV x v → Vals xs us → r x xs H Q →
    wpAny (model X.prog X.w) X.A (call (.builtin id) (v :: us)) (EP X pins σ Q) X.xe s

/-! ### lists of values -/
theorem Vals.one : ∀ {x : V} {us : List Value}, Vals [x] us → ∃ u, us = [u] ∧ RelV x u
  | _, _, .cons r .nil => ⟨_, rfl, r⟩
theorem Vals.eraseIdx : ∀ {xs : List V} {us : List Value} (i : Nat), Vals xs us → Vals (xs.eraseIdx i) (us.eraseIdx i)
  | _, _, _, .nil => .nil
  | _, _, 0, .cons _ t => t
  | _, _, i + 1, .cons r t => .cons r (Vals.eraseIdx i t)
theorem len_erase {α : Type} : ∀ (l : List α) (i : Nat), (l.eraseIdx i).length ≤ l.length
  | [], _ => Nat.le_refl _
  | _ :: _, 0 => Nat.le_succ _
  | _ :: r, i + 1 => Nat.succ_le_succ (len_erase r i)

section
variable {X : Cx} {pins : List (Addr × Obj)} {σ : St} {H : Hp} {s : Shared} {l b : Addr} {xs ys zs : List V}

/-! ### the two steps: a tracked list is rewritten, a new list is laid -/
theorem Inv.lset {its its' : List Value} {n : Nat} {f : Array Value → Array Value} {t' : Nat} (I : Inv X pins σ H s) (hH : H l = some (.lst xs))
    (e : s.heap.get? l = some { cls := .type "list", data := .seq its.toArray n }) (hf : f its.toArray = its'.toArray) (hv : Vals ys its') (hz : ys.length ≤ sizeLine) :
    Inv X pins σ (upd H l (.lst ys)) { s with heap := s.heap.update l (Obj.mapSeq f), toks := t' } := by
  have q := PySem.IsL.update e f
  rw [hf] at q
  refine I.write (x := l) (e := l) (by rw [hH]; exact trivial) (.inl rfl) (fun b' u hb hu => (Heap.get?_update_other s.heap (Obj.mapSeq f) (Ne.symm hb)).trans hu) ⟨_, q⟩ ?_
  exact ⟨hz, its', _, hv, q⟩
theorem Inv.lnew {its : List Value} {t' : Nat} (I : Inv X pins σ H s) (hv : Vals ys its) (hz : ys.length ≤ sizeLine) :
    Inv X pins σ (upd H s.heap.objs.size (.lst ys)) { s with heap := s.heap.push { cls := .type "list", data := .seq its.toArray }, toks := t' } :=
  I.laid (fun _ _ q => Heap.get?_push_of_some _ q) (Nat.le_refl _) ⟨hz, its, 0, hv, Heap.get?_push_size _ rfl⟩
theorem Inv.fresh (I : Inv X pins σ H s) : H s.heap.objs.size = none := I.hok.fresh (Nat.le_refl _)
theorem Inv.lstM (I : Inv X pins σ H s) (hH : H l = some (.lst xs)) : xs.length ≤ sizeLine ∧ ∃ (its : List Value) (n : Nat), Vals xs its ∧ xs.length = its.length ∧ s.heap.get? l = some { cls := .type "list", data := .seq its.toArray n } := by
  obtain ⟨z, its, n, r, e⟩ := I.hok l _ hH
  exact ⟨z, its, n, r, r.length, e⟩

theorem notLongL {n : Nat} (h : n ≤ sizeLine) : Builtin.List.listTooLong n = false := by
  unfold Builtin.List.listTooLong
  exact decide_eq_false (by omega)
end

section
variable {X : Cx}

/-! ### methods -/
def rAppend : V → List V → Hp → VK → Prop := fun x vs H Q => ∃ l xs y, x = .ref l ∧ vs = [y] ∧ H l = some (.lst xs) ∧ xs.length < sizeLine ∧ Q .non (upd H l (.lst (xs ++ [y])))
theorem mt_append : MtM X "list.append" rAppend := by
  intro pins s σ H x vs v us Q I rx rv h
  obtain ⟨l, xs, y, rfl, rfl, hH, hz, q⟩ := h
  cases rx
  obtain ⟨u, rfl, ru⟩ := rv.one
  obtain ⟨z, its, n, r, hl, e⟩ := I.lstM hH
  refine call_meets F.slot_list_append ⟨_, e, rfl⟩ F.entry_list_append (F.args_list_append_2 _ _) (PySem.list_append l its.toArray n u (by rw [List.size_toArray]; omega)) ⟨e, ?_⟩
  refine ⟨.non, _, I.lset (its' := its ++ [u]) hH e (by simp) (r.append (.cons ru .nil)) ?_, rfl, q⟩
  rw [List.length_append, List.length_singleton]
  omega

def rExtend : V → List V → Hp → VK → Prop := fun x vs H Q => ∃ l b xs zs, x = .ref l ∧ vs = [.ref b] ∧ H l = some (.lst xs) ∧ H b = some (.lst zs) ∧ xs.length + zs.length ≤ sizeLine ∧ Q .non (upd H l (.lst (xs ++ zs)))
theorem mt_extend : MtM X "list.extend" rExtend := by
  intro pins s σ H x vs v us Q I rx rv h
  obtain ⟨l, b, xs, zs, rfl, rfl, hH, hB, hz, q⟩ := h
  cases rx
  obtain ⟨u, rfl, ru⟩ := rv.one
  cases ru
  obtain ⟨z, its, n, r, hl, e⟩ := I.lstM hH
  obtain ⟨z2, its2, n2, r2, hl2, e2⟩ := I.lstM hB
  have hsz : its.toArray.size + its2.toArray.size ≤ sizeLine := by rw [List.size_toArray, List.size_toArray]; omega
  have hlong : ¬ (!its.toArray.isEmpty && Builtin.List.listTooLong (its.toArray.size + its2.toArray.size)) = true := by
    rw [notLongL hsz, Bool.and_false]
    exact Bool.false_ne_true
  refine call_meets F.slot_list_extend ⟨_, e, rfl⟩ F.entry_list_extend (F.args_list_extend_2 _ _)
    (AutoSeq1.list_extend_list_list_0 l its.toArray n b its2.toArray n2 hlong (by rw [List.size_toArray]; omega) (by omega)) ⟨e, e2, ?_⟩
  refine ⟨.non, _, I.lset (its' := its ++ its2) hH e (by simp) (r.append r2) ?_, rfl, q⟩
  rw [List.length_append]
  omega

/-! ### list + list, list += list, list * int -/
def rCat : R2 := fun x y H Q => ∃ l b xs zs, x = .ref l ∧ y = .ref b ∧ H l = some (.lst xs) ∧ H b = some (.lst zs) ∧ xs.length + zs.length ≤ sizeLine ∧ ∀ p, H p = none → Q (.ref p) (upd H p (.lst (xs ++ zs)))
theorem op_cat : OpR X (binaryOp .Add) rCat := by
  intro pins s σ H x y v u Q I rx ry h
  obtain ⟨l, b, xs, zs, rfl, rfl, hH, hB, hz, q⟩ := h
  cases rx
  cases ry
  obtain ⟨z, its, n, r, hl, e⟩ := I.lstM hH
  obtain ⟨z2, its2, n2, r2, hl2, e2⟩ := I.lstM hB
  refine PySem.P.add_list e e2 ?_ (by rw [List.size_toArray, List.size_toArray]; omega)
  have ea : its.toArray ++ its2.toArray = (its ++ its2).toArray := by simp
  rw [ea]
  exact ⟨.ref _, _, I.lnew (t' := s.toks) (r.append r2) (by rw [List.length_append]; omega), rfl, q _ I.fresh⟩

/-! ### del xs[i] -/
end

/-! ### xs[a:b] = ys -/
section
variable {prog : Program} {w : World} {A : Around} {E : Value → Shared → Prop} {s : Shared}
set_option maxRecDepth 100000 in
end

section
variable {X : Cx}
end
end L2

namespace L2
open PySem PySem.Spec PyProof.Rows

theorem Vals.ints : ∀ {ns : List Int} {us : List Value}, Vals (ns.map V.int) us → IntsAre us ns
  | [], us, h => by
    rw [List.map_nil] at h
    cases h
    exact IntsAre.nil
  | n :: ns, us, h => by
    rw [List.map_cons] at h
    cases h with
    | cons r t =>
      obtain ⟨k, rfl⟩ := r
      exact IntsAre.cons n k (Vals.ints t)
theorem Vals.ref1 {a : Addr} {us : List Value} (r : Vals [V.ref a] us) : us = [Value.ref a] := by
  cases r with
  | cons r t =>
    cases t
    cases r
    rfl

/-! ### the library's walks over a list of ints, kept objects alone -/
section
variable {prog : Program} {w : World} {A : Around} {E : Value → Shared → Prop} {s : Shared} {l : Addr} {its : List Value} {ns : List Int} {Q : Value → Shared → Prop}
theorem max_raw (hh : A.handled = none) (hl : s.heap.IsList l its.toArray) (hi : IntsAre its ns) (hne : 0 < ns.length)
    (h : ∀ h' tk M t', (∀ b o, s.heap.get? b = some o → h'.get? b = some o) → M ∈ ns → (∀ a, a ∈ ns → a ≤ M) → Q (.int M t') { s with heap := h', toks := tk }) : wpAny (model prog w) A (call (.builtin "max") [.ref l]) Q E s := by
  obtain ⟨xs, e⟩ := hi.allInts.items
  have hn : numsOf (intItems xs).toList = ns := by rw [← e]; exact hi.numsOf
  rw [nums_intItems] at hn
  subst hn
  rw [e] at hl
  have hsz : 0 < xs.size := by simpa using hne
  refine PySem.max_intList hh hl hsz fun v h' tk hv hk => ?_
  obtain ⟨t, rfl⟩ := intItems_at hv
  obtain ⟨h1, h2⟩ := argBest_gt (numAt xs) (xs.size - 1)
  refine h h' tk _ t hk ?_ fun a ha => ?_
  · rw [numAt_eq]; exact PySem.getD_mem (by rw [List.length_map, Array.length_toList]; omega)
  · obtain ⟨j, hj, rfl⟩ := mem_getD ha
    rw [List.length_map, Array.length_toList] at hj
    rw [← numAt_eq]; exact h2 j (by omega)
end

/-! ### the calls, by values (CallR of 03t; MtR of 06l) -/
section
variable {X : Cx}
/-- max(xs), min(xs) of a list of ints -/
def rMax (K : PySem.W.Frag) : List V → Hp → VK → Prop := fun vs H Q => ∃ (a : Addr) (ns : List Int), vs = [V.ref a] ∧ SqL K H a (ns.map V.int) ∧ 0 < ns.length ∧ ∀ m, m ∈ ns → (∀ y, y ∈ ns → y ≤ m) → Q (.int m) H
theorem cr_max (hc : X.calm = true) : CallR X (.builtin "max") (rMax X.K) := by
  intro pins s σ H vs us Q I r h
  obtain ⟨a, ns, rfl, hs, hne, q⟩ := h
  obtain ⟨its, rv, hl, _⟩ := I.list hs
  rw [Vals.ref1 r]
  exact max_raw (I.ok.hd hc) hl.isList rv.ints hne fun h' tk m t' hk h1 h2 => ⟨.int _, H, I.kept hk, ⟨_, rfl⟩, q m h1 h2⟩

/-! sorted, sort (fewer than 64 items: the library's own bound) -/
end

/-! ### list.index, flat items -/
section
variable {X : Cx}
end

/-! ### type(x) of an own instance; is, is not of a module's class -/
section
variable {X : Cx}
end

/-! ### any(xs), all(xs) of a list of bools -/
section
variable {X : Cx}
end

/-! ### == and != of data at any depth: none, bools, ints, texts, lists, tuples -/
mutual
inductive Dp (K : PySem.W.Frag) (H : Hp) : V → PyData → Prop
  | non : Dp K H .non .none
  | bl (b : Bool) : Dp K H (.bl b) (.bool b)
  | int (i : Int) : Dp K H (.int i) (.int i)
  | str (x : Str) : Dp K H (.str x) (.str x)
  | lst {a : Addr} {xs : List V} {ds : List PyData} : SqL K H a xs → DpAll K H xs ds → Dp K H (.ref a) (.list ds)
  | tup {a : Addr} {xs : List V} {ds : List PyData} : SqT K H a xs → DpAll K H xs ds → Dp K H (.ref a) (.tuple ds)
inductive DpAll (K : PySem.W.Frag) (H : Hp) : List V → List PyData → Prop
  | nil : DpAll K H [] []
  | cons {v : V} {vs : List V} {d : PyData} {ds : List PyData} : Dp K H v d → DpAll K H vs ds → DpAll K H (v :: vs) (d :: ds)
end
section
variable {X : Cx} {pins : List (Addr × Obj)} {σ : St} {H : Hp} {s : Shared}
end
section
variable {X : Cx}
end
end L2

namespace L2
open PySem PySem.Spec PyProof.Rows
abbrev CellAt (h : Heap) (c : Addr) (v : Option Value) : Prop := h.IsCell c v
def relS (scope sc : Scope) : Scope :=
  { scope with names := scope.names.map fun (n, k) => if (k == .free && sc.kind == .function && sc.names.lookup n == some .cell) then (n, .cell) else (n, k) }

def cloFrom (cells : List (Str × Addr)) : List (Str × NameKind) → List (Str × Addr) → List (Str × Addr)
  | [], acc => acc
  | (n, k) :: r, acc => if k == .free then cloFrom cells r ((n, (cells.lookup n).getD 0) :: acc) else cloFrom cells r acc

theorem closure_loop (env : Env) (f : Str × NameKind → List (Str × Addr) → Sem (ForInStep (List (Str × Addr))))
    (hf : ∀ n k c, f (n, k) c = if k == .free then (do let a ← cellOf env n; pure (.yield ((n, a) :: c))) else pure (.yield c)) :
    ∀ (names : List (Str × NameKind)) (acc : List (Str × Addr)), (∀ y ∈ names, y.2 = .free → ∃ c, env.cells.lookup y.1 = some c) → forIn names acc f = pure (cloFrom env.cells names acc)
  | [], acc, _ => by rw [List.forIn_nil]; rfl
  | (n, k) :: r, acc, h => by
    rw [List.forIn_cons, hf]
    have ih := fun acc => closure_loop env f hf r acc fun y hy => h y (List.mem_cons_of_mem _ hy)
    unfold cloFrom
    by_cases hk : (k == NameKind.free) = true
    · rw [if_pos hk, if_pos hk]
      obtain ⟨c, hc⟩ := h (n, k) List.mem_cons_self (by simpa using hk)
      have e : cellOf env n = pure c := by unfold cellOf; rw [hc]
      rw [e]
      have e2 : (env.cells.lookup n).getD 0 = c := by rw [hc]; rfl
      rw [e2]
      exact ih _
    · rw [if_neg hk, if_neg hk]
      exact ih _
theorem closure_ok {scope : Scope} {env : Env} (h : ∀ y ∈ scope.names, y.2 = .free → ∃ c, env.cells.lookup y.1 = some c) : closureFor scope env = pure (cloFrom env.cells scope.names []) := by
  simp only [closureFor]
  rw [closure_loop env _ (fun n k c => rfl) scope.names [] h]
  rfl

theorem mem_lookup {α : Type} : ∀ {l : List (Str × α)} {n : Str} {c : α}, (n, c) ∈ l → ∃ c', l.lookup n = some c'
  | (k, v) :: r, n, c, h => by
    rw [List.lookup_cons]
    cases hb : n == k with
    | true => exact ⟨_, rfl⟩
    | false =>
      rcases List.mem_cons.mp h with e | h
      · cases e; simp at hb
      · exact mem_lookup h

theorem cloFrom_mem {cells : List (Str × Addr)} : ∀ {names : List (Str × NameKind)} {acc : List (Str × Addr)} {n : Str} {c : Addr}, (n, c) ∈ cloFrom cells names acc → (n, c) ∈ acc ∨ ((n, .free) ∈ names ∧ c = (cells.lookup n).getD 0)
  | [], _, _, _, h => .inl h
  | (m, k) :: r, acc, n, c, h => by
    unfold cloFrom at h
    split at h
    · rename_i hk
      have hk : k = .free := by simpa using hk
      rcases cloFrom_mem h with h | ⟨h1, h2⟩
      · rcases List.mem_cons.mp h with e | h
        · cases e; exact .inr ⟨hk ▸ List.mem_cons_self, rfl⟩
        · exact .inl h
      · exact .inr ⟨List.mem_cons_of_mem _ h1, h2⟩
    · rcases cloFrom_mem h with h | ⟨h1, h2⟩
      · exact .inl h
      · exact .inr ⟨List.mem_cons_of_mem _ h1, h2⟩
theorem cloFrom_acc {cells : List (Str × Addr)} : ∀ {names : List (Str × NameKind)} {acc : List (Str × Addr)} {p : Str × Addr}, p ∈ acc → p ∈ cloFrom cells names acc
  | [], _, _, h => h
  | (m, k) :: r, acc, p, h => by
    unfold cloFrom
    split
    · exact cloFrom_acc (List.mem_cons_of_mem _ h)
    · exact cloFrom_acc h
theorem cloFrom_has {cells : List (Str × Addr)} : ∀ {names : List (Str × NameKind)} {acc : List (Str × Addr)} {n : Str}, (n, .free) ∈ names → (n, (cells.lookup n).getD 0) ∈ cloFrom cells names acc
  | (m, k) :: r, acc, n, h => by
    unfold cloFrom
    rcases List.mem_cons.mp h with e | h
    · cases e
      exact cloFrom_acc List.mem_cons_self
    · split
      · exact cloFrom_has h
      · exact cloFrom_has h

theorem cells_mem : ∀ {names : List (Str × NameKind)} {h : Heap} {acc : List (Str × Addr)} {x : Str} {c : Addr}, (x, c) ∈ cellsFrom h.objs.size names acc →
    (x, c) ∈ acc ∨ ((x, .cell) ∈ names ∧ h.objs.size ≤ c ∧ CellAt (pushCells h names) c none)
  | [], _, _, _, _, h => .inl h
  | (n, k) :: r, h, acc, x, c, hm => by
    unfold cellsFrom at hm
    unfold pushCells
    split at hm
    · rename_i hk
      rw [if_pos hk]
      have hk : k = .cell := by simpa using hk
      rw [← Heap.size_push h { cls := .type "cell", data := .cell none }] at hm
      rcases cells_mem hm with hm | ⟨h1, h2, h3⟩
      · rcases List.mem_cons.mp hm with e | hm
        · cases e
          exact .inr ⟨hk ▸ List.mem_cons_self, Nat.le_refl _, _, pushCells_keeps r _ _ _ (Heap.get?_push_size _ rfl), rfl⟩
        · exact .inl hm
      · rw [Heap.size_push] at h2
        exact .inr ⟨List.mem_cons_of_mem _ h1, Nat.le_of_succ_le h2, h3⟩
    · rename_i hk
      rw [if_neg hk]
      rcases cells_mem hm with hm | ⟨h1, h2, h3⟩
      · exact .inl hm
      · exact .inr ⟨List.mem_cons_of_mem _ h1, h2, h3⟩
theorem cells_acc : ∀ {names : List (Str × NameKind)} {n : Nat} {acc : List (Str × Addr)} {p : Str × Addr}, p ∈ acc → p ∈ cellsFrom n names acc
  | [], _, _, _, h => h
  | (m, k) :: r, n, acc, p, h => by
    unfold cellsFrom
    split
    · exact cells_acc (List.mem_cons_of_mem _ h)
    · exact cells_acc h
theorem cells_has : ∀ {names : List (Str × NameKind)} {n : Nat} {acc : List (Str × Addr)} {x : Str}, (x, .cell) ∈ names → ∃ c, (x, c) ∈ cellsFrom n names acc
  | (m, k) :: r, n, acc, x, h => by
    unfold cellsFrom
    rcases List.mem_cons.mp h with e | h
    · cases e
      exact ⟨n, cells_acc List.mem_cons_self⟩
    · split
      · exact cells_has h
      · exact cells_has h
theorem cells_inj : ∀ {names : List (Str × NameKind)} {h : Heap} {acc : List (Str × Addr)} {x y : Str} {c : Addr}, (∀ p ∈ acc, p.2 < h.objs.size) → (∀ x y c, (x, c) ∈ acc → (y, c) ∈ acc → x = y) →
    (x, c) ∈ cellsFrom h.objs.size names acc → (y, c) ∈ cellsFrom h.objs.size names acc → x = y
  | [], _, _, _, _, _, _, hi, h1, h2 => hi _ _ _ h1 h2
  | (n, k) :: r, h, acc, x, y, c, hl, hi, h1, h2 => by
    unfold cellsFrom at h1 h2
    split at h1
    · rename_i hk
      rw [if_pos hk] at h2
      rw [← Heap.size_push h { cls := .type "cell", data := .cell none }] at h1 h2
      refine cells_inj (h := h.push _) (fun p hp => ?_) (fun x y c a b => ?_) h1 h2
      · rw [Heap.size_push]
        rcases List.mem_cons.mp hp with rfl | hp
        · exact Nat.lt_succ_self _
        · exact Nat.lt_succ_of_lt (hl p hp)
      · rcases List.mem_cons.mp a with e | a <;> rcases List.mem_cons.mp b with e' | b
        · cases e; cases e'; rfl
        · cases e; exact absurd (hl _ b) (Nat.lt_irrefl _)
        · cases e'; exact absurd (hl _ a) (Nat.lt_irrefl _)
        · exact hi _ _ _ a b
    · rename_i hk
      rw [if_neg hk] at h2
      exact cells_inj hl hi h1 h2

theorem newEnv_comp {M : Model} {A : Around} {E : Value → Shared → Prop} {s : Shared} {scope : Scope} {globals : Addr} {closure : List (Str × Addr)} {qual : Str} {func : Option Addr} {code : Value} {around : Env} {builtins : Addr} {Q : Env → Shared → Prop}
    (h : Q (newEnv scope s.heap.objs.size globals (cellsFrom (s.heap.objs.size + 1) scope.names closure) qual func code (some around) builtins)
      { s with heap := pushCells (s.heap.push { cls := .type "dict", data := .dict #[] }) scope.names }) :
    wpAny M A (newFunctionEnv scope globals closure [] qual func code (some around) builtins) Q E s := by
  simp only [newFunctionEnv, Option.isSome_some, if_true]
  refine wpAny_bind (wpAny_alloc ?_)
  refine wpAny_bind (wpAny_layCells _ (fun n k c => rfl) scope.names closure _ _ ?_)
  rw [show ({ s with heap := s.heap.push { cls := .type "dict", data := .dict #[] } } : Shared).heap.objs.size = s.heap.objs.size + 1 from Heap.size_push ..]
  rw [List.forIn_nil]
  exact wpAny_bind (wpAny_pure (wpAny_pure h))

/-- every name of the written scope, in the scope that runs -/
theorem lookup_relS {sc : Scope} : ∀ {names : List (Str × NameKind)} {x : Str} {k : NameKind},
    (names.map fun (n, k) => if (k == NameKind.free && sc.kind == .function && sc.names.lookup n == some .cell) then (n, NameKind.cell) else (n, k)).lookup x = some k →
    ∃ k', names.lookup x = some k' ∧ (k = k' ∨ (k' = .free ∧ k = .cell))
  | [], _, _, h => by simp at h
  | (n, k₀) :: r, x, k, h => by
    have ih := @lookup_relS sc r x k
    have h' : List.lookup x ((if (k₀ == NameKind.free && sc.kind == .function && sc.names.lookup n == some .cell) = true then (n, NameKind.cell) else (n, k₀)) :: (r.map _)) = some k := h
    cases hx : x == n with
    | true =>
      simp only [List.lookup_cons, hx]
      by_cases hc : (k₀ == NameKind.free && sc.kind == .function && sc.names.lookup n == some .cell) = true
      · rw [if_pos hc] at h'
        simp only [List.lookup_cons, hx] at h'
        cases h'
        simp only [Bool.and_eq_true, beq_iff_eq] at hc
        exact ⟨k₀, rfl, .inr ⟨hc.1.1, rfl⟩⟩
      · rw [if_neg hc] at h'
        simp only [List.lookup_cons, hx] at h'
        cases h'
        exact ⟨_, rfl, .inl rfl⟩
    | false =>
      simp only [List.lookup_cons, hx]
      by_cases hc : (k₀ == NameKind.free && sc.kind == .function && sc.names.lookup n == some .cell) = true
      · rw [if_pos hc] at h'
        simp only [List.lookup_cons, hx] at h'
        exact ih h'
      · rw [if_neg hc] at h'
        simp only [List.lookup_cons, hx] at h'
        exact ih h'

/-- the names of a comprehension's block: its own (with their places in N), or captured -/
structure BlkOk (N : List Str) (sc scope : Scope) (own : List (Str × Nat)) : Prop where
  kind : scope.kind = .function
  uniq : ∀ y ∈ scope.names, scope.names.lookup y.1 = some y.2
  ix : ∀ p ∈ own, N[p.2]? = some p.1
  free : ∀ y ∈ scope.names, y.2 = .free → sc.names.lookup y.1 = some .cell ∨ sc.names.lookup y.1 = some .free
  own : ∀ y ∈ scope.names, y.2 = .local ∨ y.2 = .cell → y.1 ∈ own.map (·.1) ∨ y.1 ∉ N
/-- the slots of the block's own names forgotten -/
def wipe (σ : St) : List Nat → St
  | [] => σ
  | v :: vs => (wipe σ vs).set v none
theorem wipe_length (σ : St) : ∀ vs : List Nat, (wipe σ vs).length = σ.length
  | [] => rfl
  | v :: vs => by unfold wipe; rw [List.length_set, wipe_length σ vs]
theorem wipe_some {σ : St} {i : Nat} {x : V} : ∀ {vs : List Nat}, (wipe σ vs)[i]? = some (some x) → σ[i]? = some (some x) ∧ i ∉ vs
  | [], h => ⟨h, by simp⟩
  | v :: vs, h => by
    unfold wipe at h
    by_cases hi : v = i
    · subst hi
      by_cases hv : v < (wipe σ vs).length
      · rw [List.getElem?_set_self hv] at h; cases h
      · rw [List.getElem?_eq_none (by simpa using hv)] at h; cases h
    · rw [List.getElem?_set_ne hi] at h
      obtain ⟨h1, h2⟩ := wipe_some h
      exact ⟨h1, by simp only [List.mem_cons, not_or]; exact ⟨fun e => hi e.symm, h2⟩⟩

/-- the context of a block that starts at s, its iterator's objects at fp -/
abbrev Cx.blk (X : Cx) (s : Shared) (H : Hp) (scope : Scope) (cenv : Env) (fp : List Addr) : Cx := { X with s_0 := s, H_0 := H, env := cenv, outer := X.stack, ex := fp, fn := fun x => scope.names.lookup x == some .cell, pn := [], xe := fun _ _ => False }
section
variable {X : Cx} {pins : List (Addr × Obj)} {σ : St} {H : Hp} {s : Shared}
theorem block_start {scope : Scope} {own : List (Str × Nat)} {fp : List Addr} (I : Inv X pins σ H s) (ok : BlkOk X.N X.env.scope scope own) (hN : X.N.Nodup) (hfp : ∀ b ∈ fp, FpOk X pins H b ∧ b < s.heap.objs.size) :
    Inv (X.blk s H scope (compEnvC scope (cellsFrom (s.heap.objs.size + 1) scope.names (cloFrom X.env.cells scope.names [])) s.heap.objs.size X.env) fp) [] (wipe σ (own.map (·.2))) H { s with heap := pushCells (s.heap.push { cls := .type "dict", data := .dict #[] }) scope.names } := by
  have hfree : ∀ y ∈ scope.names, y.2 = .free → ∃ c, X.env.cells.lookup y.1 = some c := fun y hy e => by
    rcases ok.free y hy e with k | k
    · exact I.ok.has _ (.inl k)
    · exact I.ok.has _ (.inr k)
  generalize hcenv : compEnvC scope (cellsFrom (s.heap.objs.size + 1) scope.names (cloFrom X.env.cells scope.names [])) s.heap.objs.size X.env = cenv
  have kp : ∀ b o, s.heap.get? b = some o → (pushCells (s.heap.push { cls := .type "dict", data := .dict #[] }) scope.names).get? b = some o := fun b o e => pushCells_keeps _ _ _ _ (Heap.get?_push_of_some _ e)
  have hL : cenv.locals = s.heap.objs.size := by rw [← hcenv]; rfl
  have hcl : cenv.cells = cellsFrom (s.heap.objs.size + 1) scope.names (cloFrom X.env.cells scope.names []) := by rw [← hcenv]; rfl
  have hsc : cenv.scope = relS scope X.env.scope := by rw [← hcenv]; rfl
  rw [← Heap.size_push s.heap { cls := .type "dict", data := .dict #[] }] at hcl
  have cm : ∀ {y c}, (y, c) ∈ cloFrom X.env.cells scope.names [] → X.env.cells.lookup y = some c ∧ c < s.heap.objs.size := fun {y c} hm => by
    rcases cloFrom_mem hm with hm | ⟨h1, rfl⟩
    · cases hm
    · obtain ⟨c, hc⟩ := hfree _ h1 rfl
      rw [hc]
      obtain ⟨w, z⟩ := I.cell _ _ hc
      exact ⟨rfl, z.lt⟩
  have mem : ∀ {y c}, cenv.cells.lookup y = some c → (X.env.cells.lookup y = some c ∧ c < s.heap.objs.size) ∨ (s.heap.objs.size + 1 ≤ c ∧ CellAt (pushCells (s.heap.push { cls := .type "dict", data := .dict #[] }) scope.names) c none) := fun {y c} e => by
    rw [hcl] at e
    rcases cells_mem (PySem.mem_of_lookup e) with hm | ⟨_, h2, h3⟩
    · exact .inl (cm hm)
    · rw [Heap.size_push] at h2; exact .inr ⟨h2, h3⟩
  have look : ∀ {y}, scope.names.lookup y = some .free → ∃ c, cenv.cells.lookup y = some c ∧ X.env.cells.lookup y = some c := fun {y} hl => by
    have hy : (y, NameKind.free) ∈ scope.names := PySem.mem_of_lookup hl
    obtain ⟨c', e'⟩ := mem_lookup (cells_acc (names := scope.names) (n := (s.heap.push { cls := .type "dict", data := .dict #[] }).objs.size) (cloFrom_has (cells := X.env.cells) (acc := []) hy))
    rw [← hcl] at e'
    refine ⟨c', e', ?_⟩
    rw [hcl] at e'
    rcases cells_mem (PySem.mem_of_lookup e') with hm | ⟨h1, _, _⟩
    · exact (cm hm).1
    · have := ok.uniq _ h1
      rw [hl] at this; cases this
  have okB : (X.blk s H scope cenv fp).Ok := by
    refine ⟨I.ok.mod, by show cenv.scope.kind = _; rw [hsc]; exact ok.kind, by show cenv.globals = _; rw [← hcenv]; exact I.ok.glob, by show cenv.builtins = _; rw [← hcenv]; exact I.ok.blt, by show s.heap.objs.size ≤ cenv.locals; rw [hL]; exact Nat.le_refl _,
      fun y z c e1 e2 => ?_, fun y hy => ?_, fun y c z e => ?_, I.ok.hd, I.ok.frames, .inl rfl, fun b hb => ⟨?_, fun y c e z => ?_⟩, I.bs, Nat.le_trans I.ok.bsz I.sz, fun b o e hb => ?_, fun b hb z => ?_, I.stack, I.stkFree⟩
    · have e1 : cenv.cells.lookup y = some c := e1
      have e2 : cenv.cells.lookup z = some c := e2
      rw [hcl] at e1 e2
      refine cells_inj (fun p hp => ?_) (fun y z c a b => I.ok.inj y z c (cm a).1 (cm b).1) (PySem.mem_of_lookup e1) (PySem.mem_of_lookup e2)
      rw [Heap.size_push]
      exact Nat.lt_succ_of_lt (cm (y := p.1) (c := p.2) hp).2
    · show ∃ c, cenv.cells.lookup y = some c
      have key : ∀ k, cenv.kindOf y = some k → (k = .cell ∨ k = .free) → ∃ c, cenv.cells.lookup y = some c := fun k hk hk' => by
        unfold Env.kindOf at hk
        rw [hsc] at hk
        obtain ⟨k', e, r⟩ := lookup_relS hk
        have : k' = .cell ∨ k' = .free := by
          rcases r with rfl | ⟨rfl, _⟩
          · exact hk'
          · exact .inr rfl
        rcases this with rfl | rfl
        · obtain ⟨c, hm⟩ := cells_has (n := (s.heap.push { cls := .type "dict", data := .dict #[] }).objs.size) (acc := cloFrom X.env.cells scope.names []) (PySem.mem_of_lookup e)
          obtain ⟨c', e'⟩ := mem_lookup hm
          exact ⟨c', by rw [hcl]; exact e'⟩
        · obtain ⟨c, h1, _⟩ := look e
          exact ⟨c, h1⟩
      rcases hy with hy | hy
      · exact key _ hy (.inl rfl)
      · exact key _ hy (.inr rfl)
    · have z : (scope.names.lookup y == some NameKind.cell) = true := z
      have z : scope.names.lookup y = some .cell := by simpa using z
      have e : cenv.cells.lookup y = some c := e
      rw [hcl] at e
      rcases cells_mem (PySem.mem_of_lookup e) with hm | ⟨_, h2, _⟩
      · rcases cloFrom_mem hm with hm | ⟨h1, _⟩
        · cases hm
        · have q := ok.uniq _ h1
          rw [z] at q; cases q
      · rw [Heap.size_push] at h2
        exact Nat.le_of_succ_le h2
    · show b ≠ cenv.locals
      rw [hL]; exact Nat.ne_of_lt (hfp b hb).2
    · have e : cenv.cells.lookup y = some c := e
      rcases mem e with ⟨h1, _⟩ | ⟨h1, _⟩
      · exact (hfp b hb).1.2.2.2.2.1 y c h1 z
      · have h2 : s.heap.objs.size + 1 ≤ b := by rw [← z]; exact h1
        exact absurd (Nat.lt_of_lt_of_le (hfp b hb).2 (Nat.le_of_succ_le h2)) (Nat.lt_irrefl _)
    · rcases (hfp b hb).1.2.2.2.1 with z | z
      · exact I.ok.noex b o e z
      · exact absurd (Nat.lt_of_lt_of_le (Heap.lt_size e) (Nat.le_trans I.ok.bsz z)) (Nat.lt_irrefl _)
    · rcases List.mem_cons.mp (I.stkSub b z) with z | z
      · exact (hfp b hb).1.2.1 z
      · exact (hfp b hb).1.2.2.1 z
  refine ⟨okB, rfl, I.bare, Un.kept kp, ⟨fun _ => none, ?_, fun i y av e1 e2 e3 => ?_⟩, fun y c e => ?_, ?_, fun y c e => ?_, fun p hp => ?_, I.hok.kept kp, by rw [wipe_length]; exact I.len⟩
  · show Heap.Ns _ cenv.locals _
    rw [hL]
    exact Heap.Ns.keeps (Heap.Ns.new ..) fun b o e => pushCells_keeps _ _ _ _ e
  · obtain ⟨e2, hne⟩ := wipe_some e2
    have hfr : scope.names.lookup y = some .free ∧ (cenv.kindOf y = some .cell ∨ cenv.kindOf y = some .free) := by
      have key : ∀ k, cenv.scope.names.lookup y = some k → k = .local ∨ k = .cell ∨ k = .free → scope.names.lookup y = some .free ∧ (cenv.kindOf y = some .cell ∨ cenv.kindOf y = some .free) := fun k hk hk' => by
        have hk0 := hk
        rw [hsc] at hk
        obtain ⟨k', e, r⟩ := lookup_relS hk
        have no : ¬ (k' = .local ∨ k' = .cell) := fun hh => by
          rcases ok.own _ (PySem.mem_of_lookup e) hh with e' | e'
          · obtain ⟨p, hp, hpy⟩ := List.mem_map.mp e'
            have e3 := ok.ix p hp
            have : p.1 = y := hpy
            rw [this] at e3
            exact hne (List.mem_map.mpr ⟨p, hp, nodup_ix hN e3 e1⟩)
          · exact e' (List.mem_of_getElem? e1)
        rcases r with rfl | ⟨rfl, rfl⟩
        · rcases hk' with rfl | rfl | rfl
          · exact absurd (.inl rfl) no
          · exact absurd (.inr rfl) no
          · exact ⟨e, .inr hk0⟩
        · exact ⟨e, .inl hk0⟩
      have e3 : Vis cenv.scope y := e3
      rcases e3 with e3 | e3 | e3
      · exact key _ e3 (.inl rfl)
      · exact key _ e3 (.inr (.inl rfl))
      · exact key _ e3 (.inr (.inr rfl))
    obtain ⟨m, hn, hl⟩ := I.loc
    have hvis : Vis X.env.scope y := (ok.free _ (PySem.mem_of_lookup hfr.1) rfl).elim (fun k => .inr (.inl k)) (fun k => .inr (.inr k))
    obtain ⟨w, r, q⟩ := hl i y av e1 e2 hvis
    refine ⟨w, r, .inr ⟨hfr.2, ?_⟩⟩
    obtain ⟨c, h1, h2⟩ := look hfr.1
    rcases q with ⟨k, _⟩ | ⟨_, c', e', z⟩
    · have k : X.env.scope.names.lookup y = some .local := k
      rcases ok.free _ (PySem.mem_of_lookup hfr.1) rfl with k' | k' <;> rw [show X.env.scope.names.lookup y = _ from k'] at k <;> cases k
    · rw [h2] at e'; cases e'
      exact ⟨c, h1, z.keeps kp⟩
  · have e : cenv.cells.lookup y = some c := e
    rcases mem e with ⟨h1, _⟩ | ⟨_, z⟩
    · obtain ⟨w, z⟩ := I.cell y c h1
      exact ⟨w, z.keeps kp⟩
    · exact ⟨_, z⟩
  · show H cenv.locals = none
    rw [hL]; exact I.hok.fresh (Nat.le_refl _)
  · have e : cenv.cells.lookup y = some c := e
    rcases mem e with ⟨h1, _⟩ | ⟨h1, _⟩
    · exact I.freeC y c h1
    · exact I.hok.fresh (Nat.le_of_succ_le h1)
  · exact absurd (show p ∈ ([] : List (Addr × Obj)) ++ [] from hp) (by simp)

/-- an item appended to a tracked list -/
theorem app_ok {E : Value → Shared → Prop} {D : Addr} {xs : List V} {y : V} {v : Value} {Q : Value → Shared → Prop} (I : Inv X pins σ H s) (hD : H D = some (.lst xs)) (hz : xs.length < sizeLine) (r : RelV y v)
    (h : ∀ s', Inv X pins σ (upd H D (.lst (xs ++ [y]))) s' → Q .none s') : wpAny (model X.prog X.w) X.A (call (.builtin "list.append") [.ref D, v]) Q E s := by
  obtain ⟨hz', its, n, ri, e⟩ := I.hok D _ hD
  have hl := ri.length
  refine append_at (hsz := by rw [List.size_toArray]; omega) e fun h' sb ho' => ?_
  refine h { s with heap := h' } (I.write (t' := s.toks) (by rw [hD]; trivial) (.inl rfl) (fun b u hb q => (sb.2 b hb).trans q) ⟨_, ho'⟩ ⟨by rw [List.length_append]; exact hz, its ++ [v], n + 1, ri.append (.cons r .nil), ?_⟩)
  rw [ho']
  simp

/-- a clause's tests -/
def PTs (X : Cx) (ifs : List Expr) (t : TT) : Prop :=
  ∀ (pins : List (Addr × Obj)) (s : Shared) (σ : St) (H : Hp) (Q : Bool → Hp → Prop), Inv X pins σ H s → t σ H Q →
    wpAny (model X.prog X.w) X.A (forIn ifs true fun c r => if r = true then do let ok ← isTrue c X.env (eval c X.env); pure (ForInStep.yield ok) else pure (ForInStep.yield r)) (TP X pins σ Q) X.xe s
def tYes : TT := fun _ H Q => Q true H
theorem pts_nil : PTs X [] tYes := fun _ _ _ H _ I h => wpAny_tests_nil ⟨H, I, h⟩
theorem pts_one {c : Expr} {t : TT} (h : PT X c t) : PTs X [c] t := fun pins s σ H Q I hw => wpAny_tests_one (h pins s σ H Q I hw)
end

theorem thnF {α : Type} {t : Sem α} {Q Q' : α → Shared → Prop} {M : Model} {A : Around} {E : Value → Shared → Prop} {s : Shared} (h : wpAny M A t Q (fun _ _ => False) s) (hQ : ∀ a s, Q a s → Q' a s) : wpAny M A t Q' E s := wpAny_mono h hQ fun _ _ z => False.elim z

/-- the loop of a list comprehension's block, the target of any form (codeAny_compLoop_tests asks a target that no tuple goes to; statement and proof follow it, PyProof/CompMap.lean:41-61, with the step letOwnedTupleGo kept) -/
theorem compLoop_any {prog : Program} {w : World} {A : Around} {R : Result → Shared → Prop} {s : Shared} {elt target iter : Expr} {ifs : List Expr} {scope : Scope} {pos : Pos} {it acc : Value} {env : Env} (I : Nat → Shared → Prop)
    (turn : ∀ n s, I n s → wpAny (model prog w) A (pyNext it) (fun r s₁ => match r with
      | none => R (.ok .next) s₁
      | some v => wpAny (model prog w) A (letOwnedTupleGo target it v) (fun _ s₁' => wpAny (model prog w) A (assign target env v) (fun _ s₂ =>
          wpAny (model prog w) A (forIn ifs true fun c r => if r = true then do let ok ← isTrue c env (eval c env); pure (ForInStep.yield ok) else pure (ForInStep.yield r)) (fun ok s₃ =>
            if ok = true then wpAny (model prog w) A (eval elt env) (fun x s₄ =>
              wpAny (model prog w) A (call (.builtin "list.append") [acc, x]) (fun _ s₅ => ∃ m, m < n ∧ I m s₅) (notedBy (model prog w) A env fun e s' => R (.error e) s') s₄) (notedBy (model prog w) A env fun e s' => R (.error e) s') s₃
            else ∃ m, m < n ∧ I m s₃) (notedBy (model prog w) A env fun e s' => R (.error e) s') s₂) (notedBy (model prog w) A env fun e s' => R (.error e) s') s₁') (notedBy (model prog w) A env fun e s' => R (.error e) s') s₁) (notedBy (model prog w) A env fun e s' => R (.error e) s') s)
    (n : Nat) (h : I n s) :
    codeAny (model prog w) A (.compLoop (.ListComp elt [⟨target, iter, ifs, 0⟩] scope pos) 0 it acc env) R s := by
  refine codeAny_loop rfl I (fun n s hI => ?_) n h
  show wpAny _ A ((compTurn (.ListComp elt [⟨target, iter, ifs, 0⟩] scope pos) 0 it acc env).onRaise (fun x => do noteFrame x env; theTreesLotGoes x)) _ _ s
  refine wpAny_noted ?_
  rw [compTurn_list]
  refine wpAny_bind (wpAny_standAt (wpAny_bind (wpAny_mono (turn n s hI) (fun r s₁ h₁ => ?_) fun _ _ h' => h')))
  cases r with
  | none => exact wpAny_pure h₁
  | some v =>
    refine wpAny_bind (wpAny_mono h₁ (fun _ s₁' h₁' => ?_) fun _ _ h' => h')
    refine wpAny_bind (wpAny_mono h₁' (fun _ s₂ h₂ => wpAny_bind (wpAny_mono h₂ (fun ok s₃ h₃ => ?_) fun _ _ h' => h')) fun _ _ h' => h')
    cases ok with
    | false => exact wpAny_pure ⟨rfl, h₃⟩
    | true =>
      exact wpAny_bind (wpAny_bind (wpAny_mono h₃ (fun x s₄ h₄ => wpAny_bind (wpAny_mono h₄ (fun _ s₅ h₅ => wpAny_pure (wpAny_pure ⟨rfl, h₅⟩)) fun _ _ h' => h')) fun _ _ h' => h'))

section
variable {X : Cx}
/-- [elt for target in iter if ..]: D the new list; W by the turn and a measure, Nx what a turn is to reach -/
def tLc (wi : TI) (g : TG) (tt : TT) (te : TE) (vs : List Nat) : TE := fun σ H Q => wi σ H fun J H1 => ∀ D, H1 D = none → ∃ W : Nat → Nat → Hp → Prop, (∃ m, W 0 m (upd H1 D (.lst []))) ∧ ∀ i m H, W i m H →
  (J.stop i H ∧ Q (.ref D) H) ∨ (J.go i H ∧ ∃ Nx : Hp → Prop, (∀ H', Nx H' → ∃ m', m' < m ∧ W (i + 1) m' H') ∧ ∀ x H', J.yld i H x H' → g x (wipe σ vs) H' fun σ2 H2 => wipe σ2 vs = wipe σ vs ∧ tt σ2 H2 fun b H3 =>
    if b = true then te σ2 H3 fun y H4 => ∃ acc, H4 D = some (.lst acc) ∧ acc.length < sizeLine ∧ Nx (upd H4 D (.lst (acc ++ [y]))) else Nx H3)
theorem lc_core {pins : List (Addr × Obj)} {s : Shared} {σ : St} {H : Hp} {Q : VK} {elt tg iter : Expr} {ifs : List Expr} {scope : Scope} {own : List (Str × Nat)} {pos pos' : Pos} {wi : TI} {g : TG} {tt : TT} {te : TE} {use : Option (Value → Sem Unit)} {Qf : Value → Shared → Prop}
    (hc : X.calm = true) (hN : X.N.Nodup) (I : Inv X pins σ H s) (hi : PI X tg iter wi) (ok : BlkOk X.N X.env.scope scope own)
    (hg : ∀ (s : Shared) (H : Hp) (C : Addr) (cl : List (Str × Addr)) (fp : List Addr), PG (X.blk s H scope (compEnvC scope cl C X.env) fp) tg g) (ht : ∀ (s : Shared) (H : Hp) (C : Addr) (cl : List (Str × Addr)) (fp : List Addr), PTs (X.blk s H scope (compEnvC scope cl C X.env) fp) ifs tt)
    (he : ∀ (s : Shared) (H : Hp) (C : Addr) (cl : List (Str × Addr)) (fp : List Addr), PE (X.blk s H scope (compEnvC scope cl C X.env) fp) elt te) (hs : ∀ x, foldedSetIterable iter X.env x = pure x)
    (h : tLc wi g tt te (own.map (·.2)) σ H Q)
    (hRR : ∀ D C s' m H', Inv X pins σ H' s' → Q (.ref D) H' → s'.heap.Ns C m → FpOk X pins H' C → compPost (model X.prog X.w) X.A X.xe use Qf (.ref D) C (.ok .next) s') :
    wpAny (model X.prog X.w) X.A (comprehension (.ListComp elt [⟨tg, iter, ifs, 0⟩] scope pos) scope X.env pos' (newList []) false (eval iter X.env) use) Qf X.xe s := by
  have hfree : ∀ y ∈ scope.names, y.2 = .free → ∃ c, X.env.cells.lookup y.1 = some c := fun y hy e => by
    rcases ok.free y hy e with k | k
    · exact I.ok.has _ (.inl k)
    · exact I.ok.has _ (.inr k)
  refine wpAny_comprehension_free (use := use) rfl hs (closure_ok hfree) ok.kind (fun y hy e => by rw [ok.uniq y hy, e])
    (thn (hi pins s σ H _ I h) fun xv s1 hx => thn hx fun itv s2 h2 => ?_)
  obtain ⟨it, fp, tn, J, H2, e, I2, T, st2, f2, q⟩ := h2
  subst e
  refine wpAny_newObj_type (newEnv_comp ?_) (by show 0 ≤ sizeLine; decide)
  generalize hD : s2.heap.objs.size = D
  have hDn : H2 D = none := I2.hok.fresh (Nat.le_of_eq hD)
  obtain ⟨W, ⟨m0, w0⟩, turn⟩ := q D hDn
  -- the new list
  generalize hs3 : ({ s2 with heap := s2.heap.push { cls := .type "list", data := .seq ([] : List Value).toArray } } : Shared) = s3
  have I3 : Inv X pins σ (upd H2 D (.lst [])) s3 := by
    rw [← hs3]
    refine I2.laid (t' := s2.toks) (fun b o e => Heap.get?_push_of_some _ e) (Nat.le_of_eq hD) ⟨Nat.zero_le _, [], 0, .nil, ?_⟩
    rw [← hD]
    exact Heap.get?_push_size _ rfl
  have h3 : s3.heap = s2.heap.push { cls := .type "list", data := .seq ([] : List Value).toArray } := by rw [← hs3]
  have sz : ∀ b ∈ fp, b < s2.heap.objs.size := fun b hb => by
    obtain ⟨o, e, _⟩ := T.obj _ _ st2 b hb
    exact Heap.lt_size e
  have f3 : ∀ b ∈ fp, FpOk X pins (upd H2 D (.lst [])) b ∧ b < s3.heap.objs.size := fun b hb => by
    have hlt := sz b hb
    refine ⟨⟨?_, (f2 b hb).2⟩, by rw [h3, Heap.size_push]; exact Nat.lt_succ_of_lt hlt⟩
    rw [upd_ne (by rw [← hD]; exact Nat.ne_of_lt hlt)]
    exact (f2 b hb).1
  have st3 : tn 0 s3.heap := T.keep _ _ _ st2 fun b _ o e => by rw [h3]; exact Heap.get?_push_of_some _ e
  have I4 := block_start I3 ok hN f3
  have pg := hg s3 (upd H2 D (.lst [])) s3.heap.objs.size (cellsFrom (s3.heap.objs.size + 1) scope.names (cloFrom X.env.cells scope.names [])) fp
  have pt := ht s3 (upd H2 D (.lst [])) s3.heap.objs.size (cellsFrom (s3.heap.objs.size + 1) scope.names (cloFrom X.env.cells scope.names [])) fp
  have pe := he s3 (upd H2 D (.lst [])) s3.heap.objs.size (cellsFrom (s3.heap.objs.size + 1) scope.names (cloFrom X.env.cells scope.names [])) fp
  show codeAny _ _ (.compStart (.ListComp elt [⟨tg, iter, ifs, 0⟩] scope pos) 0 (.ref it) (.ref D) (compEnvC scope (cellsFrom (s3.heap.objs.size + 1) scope.names (cloFrom X.env.cells scope.names [])) s3.heap.objs.size X.env)) (compPost (model X.prog X.w) X.A X.xe use Qf (.ref D) s3.heap.objs.size) { s3 with heap := pushCells (s3.heap.push { cls := .type "dict", data := .dict #[] }) scope.names }
  have nfp : ∀ b ∈ fp, (upd H2 D (.lst [])) b = none := fun b hb => (f3 b hb).1.1
  generalize hce : compEnvC scope (cellsFrom (s3.heap.objs.size + 1) scope.names (cloFrom X.env.cells scope.names [])) s3.heap.objs.size X.env = ce at I4 pg pt pe ⊢
  have cL : ce.locals = s3.heap.objs.size := by subst hce; rfl
  generalize hH3 : upd H2 D (.lst []) = H3 at I3 I4 pg pt pe w0 nfp f3
  generalize hs4 : ({ s3 with heap := pushCells (s3.heap.push { cls := .type "dict", data := .dict #[] }) scope.names } : Shared) = s4 at I4 ⊢
  have st4 : tn 0 s4.heap := T.keep _ _ _ st3 fun b _ o e => by rw [← hs4]; exact pushCells_keeps _ _ _ _ (Heap.get?_push_of_some _ e)
  have stat : ∀ {σ' : St} {H' : Hp} {s' : Shared}, Inv (X.blk s3 H3 scope ce fp) [] σ' H' s' → (∀ b ∈ fp, H' b = none) → ∀ b ∈ fp, FpOk (X.blk s3 H3 scope ce fp) [] H' b := fun {σ' H' s'} I' hn b hb =>
    ⟨hn b hb, (I'.ok.exf b hb).1, I'.ok.exfs b hb, .inl hb, fun x c e => (I'.ok.exf b hb).2 x c e, fun p hp => absurd (show p ∈ ([] : List (Addr × Obj)) ++ [] from hp) (by simp)⟩
  have loop : codeAny (model X.prog X.w) X.A (.compLoop (.ListComp elt [⟨tg, iter, ifs, 0⟩] scope pos) 0 (.ref it) (.ref D) ce) (compPost (model X.prog X.w) X.A X.xe use Qf (.ref D) s3.heap.objs.size) s4 := by
    refine compLoop_any (fun n s' => ∃ i H', Inv (X.blk s3 H3 scope ce fp) [] (wipe σ (own.map (·.2))) H' s' ∧ tn i s'.heap ∧ (∀ b ∈ fp, H' b = none) ∧ W i n H') ?_ m0 ⟨0, H3, I4, st4, nfp, w0⟩
    rintro n s5 ⟨i, H5, I5, st5, n5, w5⟩
    rcases turn i n H5 w5 with ⟨stop, qq⟩ | ⟨go, Nx, hNx, step⟩
    · have td := T.done (X.blk s3 H3 scope ce fp) rfl rfl rfl hc i [] s5 _ H5 (fun _ _ => False) I5 (stat I5 n5) st5 stop
      refine thnF td fun r s6 ⟨hr, I6⟩ => ?_
      subst hr
      -- back in the def's context
      have I7 : Inv X pins σ H5 s6 := I3.call' (ch := fp) I6.os I6.base I6.hok I6.bare fun b hb => ⟨(f3 b hb).1.2.2.2.1, (f3 b hb).1.2.1, (f3 b hb).1.2.2.2.2.1, (f3 b hb).1.2.2.2.2.2⟩
      have nC : H5 s3.heap.objs.size = none := by
        have z : H5 ce.locals = none := I6.free
        rw [cL] at z
        exact z
      obtain ⟨m, hn, _⟩ := I6.loc
      have hn : s6.heap.Ns ce.locals m := hn
      rw [cL] at hn
      exact hRR D s3.heap.objs.size s6 m H5 I7 qq hn (I3.fpOk (Nat.le_refl _) nC)
    · have ti := T.item (X.blk s3 H3 scope ce fp) rfl rfl rfl hc i [] s5 _ H5 (fun _ _ => False) I5 (stat I5 n5) st5 go
      refine thnF ti fun r s6 ⟨u, hr, h6⟩ => ?_
      subst hr
      refine thnF h6 fun _ s7 ⟨x, H7, I7, r7, y7, st7, n7⟩ => ?_
      have I7' := I7.pinned (stat I7 n7) (T.obj _ _ st7)
      refine thnF (pg _ s7 _ H7 x u _ I7' r7 (step x H7 y7)) fun _ s8 ⟨σ8, H8, I8, hw8, q8⟩ => ?_
      refine thnF (pt _ s8 σ8 H8 _ I8 q8) fun b s9 ⟨H9, I9, q9⟩ => ?_
      -- the turn's end
      have fin : ∀ {s' : Shared} {H' : Hp}, Inv (X.blk s3 H3 scope ce fp) ([] ++ pinsAt fp s7.heap) σ8 H' s' → Nx H' → ∃ m, m < n ∧ ∃ i H', Inv (X.blk s3 H3 scope ce fp) [] (wipe σ (own.map (·.2))) H' s' ∧ tn i s'.heap ∧ (∀ b ∈ fp, H' b = none) ∧ W i m H' := fun {s' H'} I' nx => by
        obtain ⟨m', hm, w'⟩ := hNx H' nx
        have pin' : ∀ b ∈ fp, ∀ o, s7.heap.get? b = some o → s'.heap.get? b = some o ∧ H' b = none := fun b hb o e =>
          let z := I'.pin (b, o) (List.mem_append_right _ (List.mem_append_right _ (mem_pinsAt hb e)))
          ⟨z.1, z.2.1⟩
        have hl : (wipe σ (own.map (·.2))).length = σ8.length := by rw [← hw8, wipe_length]
        refine ⟨m', hm, i + 1, H', (I'.unpinned (pins := [])).weak hl (fun j v e => ?_), T.keep _ _ _ st7 fun b hb o e => (pin' b hb o e).1, fun b hb => ?_, w'⟩
        · rw [← hw8] at e
          exact (wipe_some e).1
        · obtain ⟨o, e, _⟩ := T.obj _ _ st7 b hb
          exact (pin' b hb o e).2
      cases b with
      | false =>
        simp only [Bool.false_eq_true, if_false] at q9 ⊢
        exact fin I9 q9
      | true =>
        simp only [if_true] at q9 ⊢
        refine thnF (pe _ s9 σ8 H9 _ I9 q9) fun z s10 ⟨yv, H10, I10, r10, acc, hD10, hz10, nx⟩ => ?_
        exact app_ok (X := X.blk s3 H3 scope ce fp) I10 hD10 hz10 r10 fun s11 I11 => fin I11 nx
  exact codeAny_compStart_list loop (T.self X.A 0 _ _ _ st4 loop)
/-- as a value -/
theorem pe_lc {elt tg iter : Expr} {ifs : List Expr} {scope : Scope} {own : List (Str × Nat)} {pos : Pos} {wi : TI} {g : TG} {tt : TT} {te : TE} (hc : X.calm = true) (hN : X.N.Nodup) (hi : PI X tg iter wi) (ok : BlkOk X.N X.env.scope scope own)
    (hg : ∀ (s : Shared) (H : Hp) (C : Addr) (cl : List (Str × Addr)) (fp : List Addr), PG (X.blk s H scope (compEnvC scope cl C X.env) fp) tg g) (ht : ∀ (s : Shared) (H : Hp) (C : Addr) (cl : List (Str × Addr)) (fp : List Addr), PTs (X.blk s H scope (compEnvC scope cl C X.env) fp) ifs tt)
    (he : ∀ (s : Shared) (H : Hp) (C : Addr) (cl : List (Str × Addr)) (fp : List Addr), PE (X.blk s H scope (compEnvC scope cl C X.env) fp) elt te) (hs : ∀ x, foldedSetIterable iter X.env x = pure x := by intro _; rfl) :
    PE X (.ListComp elt [⟨tg, iter, ifs, 0⟩] scope pos) (tLc wi g tt te (own.map (·.2))) := by
  intro pins s σ H Q I h
  rw [eval_ListComp]
  refine lc_core hc hN I hi ok hg ht he hs h fun D C s' m H' I' q hn f => ⟨m, hn, fun h'' sb => ?_⟩
  obtain ⟨f0, f1, f2, f3, f4, f5⟩ := f
  exact ⟨.ref D, H', I'.turned (t' := s'.toks) (fun b o hb e => (sb.2 b hb).trans e) f0 f1 f3 f4 f5, rfl, q⟩
/-- name = [..] on one line, the name a local -/
theorem ps_setLc {i : Nat} {y : Str} {py : Pos} {elt tg iter : Expr} {ifs : List Expr} {scope : Scope} {own : List (Str × Nat)} {pos spos : Pos} {wi : TI} {g : TG} {tt : TT} {te : TE} (hc : X.calm = true) (hN : X.N.Nodup) (hy : X.N[i]? = some y) (hyl : X.env.scope.names.lookup y = some .local)
    (hsw : swapsWith (.ListComp elt [⟨tg, iter, ifs, 0⟩] scope pos) (some (.Name y py)) spos.line X.env = pure true) (hi : PI X tg iter wi) (ok : BlkOk X.N X.env.scope scope own)
    (hg : ∀ (s : Shared) (H : Hp) (C : Addr) (cl : List (Str × Addr)) (fp : List Addr), PG (X.blk s H scope (compEnvC scope cl C X.env) fp) tg g) (ht : ∀ (s : Shared) (H : Hp) (C : Addr) (cl : List (Str × Addr)) (fp : List Addr), PTs (X.blk s H scope (compEnvC scope cl C X.env) fp) ifs tt)
    (he : ∀ (s : Shared) (H : Hp) (C : Addr) (cl : List (Str × Addr)) (fp : List Addr), PE (X.blk s H scope (compEnvC scope cl C X.env) fp) elt te) (hs : ∀ x, foldedSetIterable iter X.env x = pure x := by intro _; rfl) :
    PS X (.Assign [.Name y py] (.ListComp elt [⟨tg, iter, ifs, 0⟩] scope pos) spos) (tAsg (tLc wi g tt te (own.map (·.2))) (gName i)) := by
  intro pins s σ H D I h
  rw [exec_Assign_Name_used _ _ _ _ hsw]
  refine wpAny_bind (wpAny_standAt (wpAny_bind ?_))
  show wpAny _ X.A (do let _ ← comprehension (.ListComp elt [⟨tg, iter, ifs, 0⟩] scope pos) scope X.env (firstIterPos [⟨tg, iter, ifs, 0⟩] pos) (newList []) false (eval iter X.env) (some (assign (.Name y py) X.env))) _ _ s
  have h : tLc wi g tt te (own.map (·.2)) σ H (fun x H1 => gName i x σ H1 D.nx) := h
  refine wpAny_bind (thn (lc_core (Qf := fun _ s' => SP X pins D .next s') hc hN I hi ok hg ht he hs h fun L C s' m H' I' q hn f => ?_) fun _ s' hq => wpAny_pure (wpAny_pure hq))
  show wpAny _ _ (assign (.Name y py) X.env (.ref L)) _ _ _
  refine wpAny_assign_Name (store_ok2 (v := V.ref L) I' hN hy (.inl hyl) rfl (fun s2 I2 ⟨a, sb, ha⟩ => ?_) (.inr hyl))
  obtain ⟨f0, f1, f2, f3, f4, f5⟩ := f
  have haC : C ≠ a := by
    rcases ha with z | z
    · rw [z]; exact f1
    · exact fun e => f4 y a z e.symm
  refine ⟨m, hn.sameBut sb haC, fun h3 sb3 => ?_⟩
  exact ⟨_, H', I2.turned (t' := s2.toks) (fun b o hb e => (sb3.2 b hb).trans e) f0 f1 f3 f4 f5, q⟩
theorem sw_true {elt : Expr} {gs : List Comprehension} {scope : Scope} {pos py : Pos} {y : Str} {l : Nat} {env : Env} (hk : env.scope.kind = .function) (hy : env.scope.names.lookup y = some .local) (hl : (py.line == pos.line) = true)
    (ha : (scope.names.any fun (n, k) => n == y && (k == .local || k == .cell)) = false) : swapsWith (.ListComp elt gs scope pos) (some (.Name y py)) l env = pure true := by
  have ky : env.kindOf y = some .local := hy
  have hb : env.blockKind = .function := by unfold Env.blockKind; rw [hk]; rfl
  unfold swapsWith
  simp only [hb, ky, ha, Expr.pos, hl]
  rfl
end

/-! ### the forms one uses -/
/-- over a range: Pv by the turn and the heap (the new list at D within) -/
theorem lc_range {lo : Int} {n : Nat} {g : TG} {tt : TT} {te : TE} {vs : List Nat} {σ : St} {H1 : Hp} {D : Addr} {Qd : Hp → Prop} (Pv : Nat → Hp → Prop) (h0 : Pv 0 (upd H1 D (.lst [])))
    (hs : ∀ i H, i < n → Pv i H → g (.int (lo + i)) (wipe σ vs) H fun σ2 H2 => wipe σ2 vs = wipe σ vs ∧ tt σ2 H2 fun b H3 =>
      if b = true then te σ2 H3 fun y H4 => ∃ acc, H4 D = some (.lst acc) ∧ acc.length < sizeLine ∧ Pv (i + 1) (upd H4 D (.lst (acc ++ [y]))) else Pv (i + 1) H3) (hd : ∀ H, Pv n H → Qd H) :
    ∃ W : Nat → Nat → Hp → Prop, (∃ m, W 0 m (upd H1 D (.lst []))) ∧ ∀ i m H, W i m H →
      ((Itr lo n).stop i H ∧ Qd H) ∨ ((Itr lo n).go i H ∧ ∃ Nx : Hp → Prop, (∀ H', Nx H' → ∃ m', m' < m ∧ W (i + 1) m' H') ∧ ∀ x H', (Itr lo n).yld i H x H' → g x (wipe σ vs) H' fun σ2 H2 => wipe σ2 vs = wipe σ vs ∧ tt σ2 H2 fun b H3 =>
        if b = true then te σ2 H3 fun y H4 => ∃ acc, H4 D = some (.lst acc) ∧ acc.length < sizeLine ∧ Nx (upd H4 D (.lst (acc ++ [y]))) else Nx H3) := by
  refine ⟨fun i m H => m = n - i ∧ i ≤ n ∧ Pv i H, ⟨n, by simp, Nat.zero_le _, h0⟩, ?_⟩
  rintro i m H ⟨rfl, hi, p⟩
  by_cases hlt : i < n
  · refine .inr ⟨hlt, Pv (i + 1), fun H' p' => ⟨n - (i + 1), by omega, rfl, hlt, p'⟩, fun x H' y => ?_⟩
    obtain ⟨e, y⟩ := y
    subst e y
    exact hs i _ hlt p
  · have e : i = n := by omega
    subst e
    exact .inl ⟨Nat.le_refl _, hd H p⟩
/-- over a list that the block leaves as it is -/
theorem lc_list {K : PySem.W.Frag} {a : Addr} {xs : List V} {g : TG} {tt : TT} {te : TE} {vs : List Nat} {σ : St} {H1 : Hp} {D : Addr} {Qd : Hp → Prop} (Pv : Nat → Hp → Prop) (h0 : Pv 0 (upd H1 D (.lst []))) (hl : ∀ i H, i ≤ xs.length → Pv i H → SqL K H a xs)
    (hs : ∀ i x H, xs[i]? = some x → Pv i H → g x (wipe σ vs) H fun σ2 H2 => wipe σ2 vs = wipe σ vs ∧ tt σ2 H2 fun b H3 =>
      if b = true then te σ2 H3 fun y H4 => ∃ acc, H4 D = some (.lst acc) ∧ acc.length < sizeLine ∧ Pv (i + 1) (upd H4 D (.lst (acc ++ [y]))) else Pv (i + 1) H3) (hd : ∀ H, Pv xs.length H → Qd H) :
    ∃ W : Nat → Nat → Hp → Prop, (∃ m, W 0 m (upd H1 D (.lst []))) ∧ ∀ i m H, W i m H →
      ((Itl K a).stop i H ∧ Qd H) ∨ ((Itl K a).go i H ∧ ∃ Nx : Hp → Prop, (∀ H', Nx H' → ∃ m', m' < m ∧ W (i + 1) m' H') ∧ ∀ x H', (Itl K a).yld i H x H' → g x (wipe σ vs) H' fun σ2 H2 => wipe σ2 vs = wipe σ vs ∧ tt σ2 H2 fun b H3 =>
        if b = true then te σ2 H3 fun y H4 => ∃ acc, H4 D = some (.lst acc) ∧ acc.length < sizeLine ∧ Nx (upd H4 D (.lst (acc ++ [y]))) else Nx H3) := by
  refine ⟨fun i m H => m = xs.length - i ∧ i ≤ xs.length ∧ Pv i H, ⟨xs.length, by simp, Nat.zero_le _, h0⟩, ?_⟩
  rintro i m H ⟨rfl, hi, p⟩
  have q := hl i H hi p
  by_cases hlt : i < xs.length
  · refine .inr ⟨⟨xs, xs[i], q, by simp [hlt]⟩, Pv (i + 1), fun H' p' => ⟨xs.length - (i + 1), by omega, rfl, hlt, p'⟩, fun x H' y => ?_⟩
    obtain ⟨e, y⟩ := y
    subst e
    exact hs i x _ (y xs q) p
  · have e : i = xs.length := by omega
    subst e
    exact .inl ⟨⟨xs, q, Nat.le_refl _⟩, hd H p⟩
def blkC (N : List Str) (sc scope : Scope) (own : List (Str × Nat)) : Bool :=
  (match scope.kind with | .function => true | _ => false) && (scope.names.all fun y => decide (scope.names.lookup y.1 = some y.2)) && (own.all fun p => decide (N[p.2]? = some p.1)) &&
    (scope.names.all fun y => match y.2 with
      | .free => (match sc.names.lookup y.1 with | some .cell => true | some .free => true | _ => false)
      | .local => decide (y.1 ∈ own.map (·.1)) || decide (y.1 ∉ N)
      | .cell => decide (y.1 ∈ own.map (·.1)) || decide (y.1 ∉ N)
      | _ => true)
theorem blkOk_by {N : List Str} {sc scope : Scope} {own : List (Str × Nat)} (h : blkC N sc scope own = true) : BlkOk N sc scope own := by
  unfold blkC at h
  simp only [Bool.and_eq_true, List.all_eq_true, decide_eq_true_eq] at h
  obtain ⟨⟨⟨h1, h2⟩, h3⟩, h4⟩ := h
  refine ⟨?_, h2, h3, fun y hy e => ?_, fun y hy e => ?_⟩
  · split at h1
    · assumption
    · cases h1
  · have q := h4 y hy
    simp only [e] at q
    split at q <;> first | exact .inl (by assumption) | exact .inr (by assumption) | cases q
  · have q := h4 y hy
    rcases e with e | e <;> (simp only [e, Bool.or_eq_true, decide_eq_true_eq] at q; exact q)
end L2

namespace L2
open PySem PySem.Spec PyProof.Rows

section
variable {prog : Program} {w : World} {A : Around} {R : Result → Shared → Prop} {s : Shared} {elt t0 i0 t1 i1 : Expr} {ifs0 ifs1 : List Expr} {scope : Scope} {pos : Pos} {it acc : Value} {env : Env}
end

section
variable {X : Cx}
end
end L2

namespace L2
open PySem PySem.Spec PyProof.Rows

/-! ### lists of pairs as tables -/
section
variable {κ : Type} [DecidableEq κ]
def valV (kvs : List (κ × V)) (k : κ) : Option V := (kvs.find? fun kv => decide (kv.1 = k)).map (·.2)
/-- in its place, or at the end -/
def putK (kvs : List (κ × V)) (k : κ) (v : V) : List (κ × V) :=
  if (kvs.any fun kv => decide (kv.1 = k)) = true then kvs.map (fun kv => if kv.1 = k then (kv.1, v) else kv) else kvs ++ [(k, v)]

theorem valV_pos {p : κ × V} {r : List (κ × V)} {k : κ} (e : p.1 = k) : valV (p :: r) k = some p.2 := by simp [valV, List.find?_cons, e]
theorem valV_neg {p : κ × V} {r : List (κ × V)} {k : κ} (e : ¬ p.1 = k) : valV (p :: r) k = valV r k := by simp [valV, List.find?_cons, e]
theorem valV_any (k : κ) : ∀ kvs : List (κ × V), (kvs.any fun kv => decide (kv.1 = k)) = (valV kvs k).isSome
  | [] => rfl
  | p :: r => by
    rw [List.any_cons]
    by_cases e : p.1 = k
    · simp only [valV_pos e, decide_eq_true e, Bool.true_or, Option.isSome_some]
    · rw [valV_neg e, decide_eq_false e, Bool.false_or]; exact valV_any k r
theorem length_putK (kvs : List (κ × V)) (k : κ) (v : V) : (putK kvs k v).length ≤ kvs.length + 1 := by
  unfold putK
  split
  · rw [List.length_map]; omega
  · rw [List.length_append, List.length_cons, List.length_nil]; omega
theorem putK_new {kvs : List (κ × V)} {k : κ} (v : V) (h : valV kvs k = none) : putK kvs k v = kvs ++ [(k, v)] := by
  unfold putK
  rw [valV_any, h]
  exact if_neg (by decide)

theorem RelO.isSome_eq {o : Option V} {u : Option Value} (r : RelO o u) : o.isSome = u.isSome := by
  cases o with
  | none => cases u with
    | none => rfl
    | some _ => exact (show False from r).elim
  | some _ => cases u with
    | none => exact (show False from r).elim
    | some _ => rfl

/-- raw tables of the same keys -/
theorem KV.val {kvs : List (κ × V)} {vs : List (κ × Value)} (r : KV kvs vs) (k : κ) : RelO (valV kvs k) (valueAt vs k) := by
  unfold KV at r
  induction r with
  | nil => exact True.intro
  | @cons p q ps qs h t ih =>
    obtain ⟨h1, h2⟩ := h
    by_cases e : p.1 = k
    · have e' : q.1 = k := h1.symm.trans e
      have b : valueAt (q :: qs) k = some q.2 := by simp [valueAt, List.find?_cons, e']
      rw [valV_pos e, b]; exact h2
    · have e' : ¬ q.1 = k := fun z => e (h1.trans z)
      have b : valueAt (q :: qs) k = valueAt qs k := by simp [valueAt, List.find?_cons, e']
      rw [valV_neg e, b]; exact ih
theorem KV.any {kvs : List (κ × V)} {vs : List (κ × Value)} (r : KV kvs vs) (k : κ) : (kvs.any fun kv => decide (kv.1 = k)) = vs.any fun kv => decide (kv.1 = k) := by
  unfold KV at r
  induction r with
  | nil => rfl
  | cons h t ih => rw [List.any_cons, List.any_cons, ih, h.1]
theorem KV.repl {kvs : List (κ × V)} {vs : List (κ × Value)} (r : KV kvs vs) (k : κ) {y : V} {u : Value} (ry : RelV y u) :
    KV (kvs.map fun kv => if kv.1 = k then (kv.1, y) else kv) (vs.map fun kv => if kv.1 = k then (kv.1, u) else kv) := by
  unfold KV at r ⊢
  induction r with
  | nil => exact .nil
  | @cons p q ps qs h t ih =>
    rw [List.map_cons, List.map_cons]
    refine .cons ?_ ih
    obtain ⟨h1, h2⟩ := h
    by_cases e : p.1 = k
    · rw [if_pos e, if_pos (h1.symm.trans e)]; exact ⟨h1, ry⟩
    · rw [if_neg e, if_neg (fun z => e (h1.trans z))]; exact ⟨h1, h2⟩
theorem KV.put {kvs : List (κ × V)} {vs : List (κ × Value)} (r : KV kvs vs) (k : κ) {y : V} {u : Value} (ry : RelV y u) : KV (putK kvs k y) (stored vs k u) := by
  unfold putK stored
  rw [r.any k]
  by_cases e : (vs.any fun kv => decide (kv.1 = k)) = true
  · rw [if_pos e, if_pos e]; exact r.repl k ry
  · rw [if_neg e, if_neg e]; exact Paired.snoc r ⟨rfl, ry⟩
theorem KV.length {kvs : List (κ × V)} {vs : List (κ × Value)} (r : KV kvs vs) : kvs.length = vs.length := Paired.length r
end

/-! ### a tracked dict, its keys ints and texts or tuples of these -/
theorem kV_is {P : Program} {w : World} {k : Key} {u : Value} (r : RelV (kV k) u) : (mixKind P w).is k u = true := by
  cases k with
  | inl i => obtain ⟨t, e⟩ := (show ∃ t, u = Value.int i t from r); subst e; exact mixKind_int P w i t
  | inr x => obtain ⟨t, e⟩ := (show ∃ t, u = Value.str x t from r); subst e; exact mixKind_str P w x t
theorem items_are {P : Program} {w : World} : ∀ {ks : List Key} {us : List Value}, Vals (ks.map kV) us → ItemsAre (mixKind P w) ks us
  | [], _, r => by rw [List.map_nil] at r; cases r; exact .nil
  | k :: ks, _, r => by
    rw [List.map_cons] at r
    cases r with
    | cons h t => exact .cons (kV_is h) (items_are t)

/-- raw entries of a dict with tuple keys -/
abbrev KT (H : Hp) : List (List Key × V) → List (List Key × Addr × Value) → Prop := Paired fun p q => p.1 = q.1 ∧ H q.2.1 = some (.tup (p.1.map kV)) ∧ RelV p.2 q.2.2
theorem KT.val {H : Hp} {kvs : List (List Key × V)} {xs : List (List Key × Addr × Value)} (r : KT H kvs xs) (k : List Key) : RelO (valV kvs k) ((atKey xs k).map (·.2)) := by
  induction r with
  | nil => exact True.intro
  | @cons p q ps qs h t ih =>
    obtain ⟨h1, _, h2⟩ := h
    by_cases e : p.1 = k
    · have e' : q.1 = k := h1.symm.trans e
      have b : atKey (q :: qs) k = some q.2 := by simp [atKey, List.find?_cons, e']
      rw [valV_pos e, b]; exact h2
    · have e' : ¬ q.1 = k := fun z => e (h1.trans z)
      have b : atKey (q :: qs) k = atKey qs k := by simp [atKey, List.find?_cons, e']
      rw [valV_neg e, b]; exact ih
theorem KT.repl {H : Hp} {kvs : List (List Key × V)} {xs : List (List Key × Addr × Value)} (r : KT H kvs xs) (k : List Key) {y : V} {u : Value} (ry : RelV y u) :
    KT H (kvs.map fun kv => if kv.1 = k then (kv.1, y) else kv) (xs.map (putAt k u)) := by
  induction r with
  | nil => exact .nil
  | @cons p q ps qs h t ih =>
    rw [List.map_cons, List.map_cons]
    refine .cons ?_ ih
    obtain ⟨h1, h2, h3⟩ := h
    unfold putAt
    by_cases e : p.1 = k
    · rw [if_pos e, if_pos (h1.symm.trans e)]; exact ⟨h1, h2, ry⟩
    · rw [if_neg e, if_neg (fun z => e (h1.trans z))]; exact ⟨h1, h2, h3⟩
theorem KT.put {H : Hp} {kvs : List (List Key × V)} {xs : List (List Key × Addr × Value)} (r : KT H kvs xs) (k : List Key) {b : Addr} {y : V} {u : Value} (hb : H b = some (.tup (k.map kV))) (ry : RelV y u) :
    KT H (putK kvs k y) (storedH xs k b u) := by
  have e : (kvs.any fun kv => decide (kv.1 = k)) = (atKey xs k).isSome := by
    rw [valV_any, (r.val k).isSome_eq, Option.isSome_map]
  unfold putK storedH
  rw [e]
  by_cases q : (atKey xs k).isSome = true
  · rw [if_pos q, if_pos q]; exact r.repl k ry
  · rw [if_neg q, if_neg q]; exact Paired.snoc r ⟨rfl, hb, ry⟩
theorem KT.keeps {H H' : Hp} {kvs : List (List Key × V)} {xs : List (List Key × Addr × Value)} (r : KT H kvs xs) (ht : ∀ b ys, H b = some (.tup ys) → H' b = some (.tup ys)) : KT H' kvs xs :=
  Paired.mapP r fun _ _ z => ⟨z.1, ht _ _ z.2.1, z.2.2⟩

section
variable {P : Program} {w : World} {H : Hp} {h : Heap} {a : Addr}
theorem rd_of {u : HO} (ok : HOk P w H h) (e : Rd H a u) : ObjOk P w H h a u := e.ok ok
theorem dk_rd {kvs : List (Key × V)} (ok : HOk P w H h) (e : Rd H a (.dK kvs)) : kvs.length ≤ sizeLine ∧ (a == sysModules) = false ∧ ∃ vs, KV kvs vs ∧ h.DictOf (mixKind P w) a vs :=
  show ObjOk P w H h a (.dK kvs) from rd_of ok e
theorem dk_of {kvs : List (Key × V)} (ok : HOk P w H h) (e : H a = some (.dK kvs)) : kvs.length ≤ sizeLine ∧ (a == sysModules) = false ∧ ∃ vs, KV kvs vs ∧ h.DictOf (mixKind P w) a vs := dk_rd ok (.inl e)
/-- a tracked tuple of ints and texts is a key -/
theorem key_of {ks : List Key} (ok : HOk P w H h) (e : H a = some (.tup (ks.map kV))) : (tupleKind (mixKind P w)).is h ks a := by
  obtain ⟨_, its, r, o, h1, h2, n, h3⟩ := (show ObjOk P w H h a (.tup (ks.map kV)) from ok a _ e)
  exact ⟨o, its.toArray, n, h1, h2, h3, by simpa using items_are r⟩
theorem dt_rd {kvs : List (List Key × V)} (ok : HOk P w H h) (e : Rd H a (.dT kvs)) : kvs.length ≤ sizeLine ∧ (a == sysModules) = false ∧
    ∃ xs, KT H kvs xs ∧ h.DictOfH (tupleKind (mixKind P w)) a xs := by
  obtain ⟨z, y, xs, r, o, es, ep, h1, h2, h3, h4, h5⟩ := (show ObjOk P w H h a (.dT kvs) from rd_of ok e)
  refine ⟨z, y, xs, r, o, es, ep, h1, h2, h3, h4, fun x hx => ?_, h5⟩
  have all : ∀ {l : List (List Key × V)} {m : List (List Key × Addr × Value)}, KT H l m → ∀ x ∈ m, (tupleKind (mixKind P w)).is h x.1 x.2.1 := by
    intro l m q
    induction q with
    | nil => intro x hx; exact nomatch hx
    | @cons p q ps qs hq t ih =>
      intro x hx
      rcases List.mem_cons.mp hx with e | hx
      · subst e
        exact key_of ok (by rw [← hq.1]; exact hq.2.1)
      · exact ih x hx
  exact all r x hx
theorem dt_of {kvs : List (List Key × V)} (ok : HOk P w H h) (e : H a = some (.dT kvs)) : kvs.length ≤ sizeLine ∧ (a == sysModules) = false ∧
    ∃ xs, KT H kvs xs ∧ h.DictOfH (tupleKind (mixKind P w)) a xs := dt_rd ok (.inl e)
end

/-- what the dict at a holds at the key y -/
def DGet (H : Hp) (a : Addr) (y : V) (r : Option V) : Prop :=
  (∃ kvs k, Rd H a (.dK kvs) ∧ y = kV k ∧ r = valV kvs k) ∨ ∃ kvs k b, Rd H a (.dT kvs) ∧ y = .ref b ∧ H b = some (.tup (k.map kV)) ∧ r = valV kvs k
/-- the heap behind a[y] = v -/
def DPut (H : Hp) (a : Addr) (y v : V) (H' : Hp) : Prop :=
  (∃ kvs k, H a = some (.dK kvs) ∧ y = kV k ∧ kvs.length < sizeLine ∧ H' = upd H a (.dK (putK kvs k v))) ∨
  ∃ kvs k b, H a = some (.dT kvs) ∧ y = .ref b ∧ H b = some (.tup (k.map kV)) ∧ kvs.length < sizeLine ∧ H' = upd H a (.dT (putK kvs k v))
theorem DGet.k {H : Hp} {a : Addr} {kvs : List (Key × V)} {k : Key} (e : H a = some (.dK kvs)) : DGet H a (kV k) (valV kvs k) := .inl ⟨kvs, k, .inl e, rfl, rfl⟩
theorem DPut.k {H : Hp} {a : Addr} {kvs : List (Key × V)} {k : Key} {v : V} (e : H a = some (.dK kvs)) (hl : kvs.length < sizeLine) : DPut H a (kV k) v (upd H a (.dK (putK kvs k v))) := .inl ⟨kvs, k, e, rfl, hl, rfl⟩

section
variable {X : Cx} {pins : List (Addr × Obj)} {σ : St} {H : Hp} {s : Shared} {a : Addr} {y v : V} {u r : Value} {o : Option V} {A : Around} {E : Value → Shared → Prop}

theorem Inv.big (I : Inv X pins σ H s) : sysModules < s.heap.objs.size := by
  have h : mainGlobals < s.heap.objs.size := (I.mod.glob.keeps I.bk).lt
  exact Nat.lt_trans (by decide) h

/-- y in d -/
theorem d_in {Q : Value → Shared → Prop} (hu : A.units + 1 < cLine) (I : Inv X pins σ H s) (g : DGet H a y o) (ry : RelV y u) (h : ∀ s', Inv X pins σ H s' → Q (.bool o.isSome) s') :
    wpAny (model X.prog X.w) A (compareOp .In u (.ref a)) Q E s := by
  rcases g with ⟨kvs, k, e, ey, l⟩ | ⟨kvs, k, b, e, ey, eb, l⟩
  · subst ey
    obtain ⟨z, hd, vs, rel, dd⟩ := dk_rd I.hok e
    refine wpAny_in_of (kV_is ry) hd dd.mapOf ?_
    rw [← (rel.val k).isSome_eq, ← l]
    exact h _ (I.tok _)
  · subst ey
    cases (show u = Value.ref b from ry)
    obtain ⟨z, hd, xs, rel, dd⟩ := dt_rd I.hok e
    refine wpAny_in_heap (tupleKind_room_in1 hu) (key_of I.hok eb) hd dd ?_
    have q := (rel.val k).isSome_eq
    rw [Option.isSome_map] at q
    rw [← q, ← l]
    exact h _ (I.tok _)
theorem d_notIn {Q : Value → Shared → Prop} (hu : A.units + 1 < cLine) (I : Inv X pins σ H s) (g : DGet H a y o) (ry : RelV y u) (h : ∀ s', Inv X pins σ H s' → Q (.bool (!o.isSome)) s') :
    wpAny (model X.prog X.w) A (compareOp .NotIn u (.ref a)) Q E s := by
  rcases g with ⟨kvs, k, e, ey, l⟩ | ⟨kvs, k, b, e, ey, eb, l⟩
  · subst ey
    obtain ⟨z, hd, vs, rel, dd⟩ := dk_rd I.hok e
    refine wpAny_notIn_of (kV_is ry) hd dd.mapOf ?_
    rw [← (rel.val k).isSome_eq, ← l]
    exact h _ (I.tok _)
  · subst ey
    cases (show u = Value.ref b from ry)
    obtain ⟨z, hd, xs, rel, dd⟩ := dt_rd I.hok e
    refine wpAny_notIn_heap (tupleKind_room_in1 hu) (key_of I.hok eb) hd dd ?_
    have q := (rel.val k).isSome_eq
    rw [Option.isSome_map] at q
    rw [← q, ← l]
    exact h _ (I.tok _)
/-- a dict's object is replaced -/
theorem d_write {h' : Heap} {t' : Nat} {ob : HO} (I : Inv X pins σ H s) (mu : Mut (H a)) (hs : Heap.SameBut a s.heap h') (he : ∃ q, h'.get? a = some q) (new : ObjOk X.prog X.w (upd H a ob) h' a ob) :
    Inv X pins σ (upd H a ob) { s with heap := h', toks := t' } :=
  I.write (x := a) (e := a) mu (.inl rfl) (fun b q hb z => (hs.2 b hb).trans z) he new
theorem dk_new {P : Program} {w : World} {H' : Hp} {h' : Heap} {kvs : List (Key × V)} {vs : List (Key × Value)} (z : kvs.length ≤ sizeLine) (hd : (a == sysModules) = false) (rel : KV kvs vs) (dd : h'.DictOf (mixKind P w) a vs) :
    ObjOk P w H' h' a (.dK kvs) := ⟨z, hd, vs, rel, dd⟩
/-- d[y] = v -/
theorem d_setItem {H' : Hp} {Q : Unit → Shared → Prop} (hu : A.units + 1 < cLine) (I : Inv X pins σ H s) (g : DPut H a y v H') (ry : RelV y u) (rv : RelV v r) (h : ∀ s', Inv X pins σ H' s' → Q () s') :
    wpAny (model X.prog X.w) A (setItem (.ref a) u r) Q E s := by
  rcases g with ⟨kvs, k, e, ey, l, eH⟩ | ⟨kvs, k, b, e, ey, eb, l, eH⟩
  · subst ey eH
    obtain ⟨z, hd, vs, rel, dd⟩ := dk_of I.hok e
    have hz : vs.length ≤ sizeLine := by rw [← rel.length]; exact z
    have hl : (putK kvs k v).length ≤ sizeLine := by have := length_putK kvs k v; omega
    refine wpAny_setItem_pairs (hsz := hz) (kV_is ry) dd fun h' dd' hs => h _ ?_
    have he : ∃ q, h'.get? a = some q := let ⟨q, _, _, hq, _⟩ := dd'; ⟨q, hq⟩
    exact d_write I (by rw [e]; exact True.intro) hs he (dk_new hl hd (rel.put k rv) dd')
  · subst ey eH
    cases (show u = Value.ref b from ry)
    obtain ⟨z, hd, xs, rel, dd⟩ := dt_of I.hok e
    have hz : xs.length ≤ sizeLine := by rw [← Paired.length rel]; exact z
    have hl : (putK kvs k v).length ≤ sizeLine := by have := length_putK kvs k v; omega
    refine wpAny_setItem_heap (hsz := hz) (tupleKind_room_in1 hu) (key_of I.hok eb) dd fun h' dd' hs => h _ ?_
    obtain ⟨q, es, ep, hq, h2, h3, h4, _, h5⟩ := dd'
    refine d_write I (by rw [e]; exact True.intro) hs ⟨q, hq⟩ ⟨hl, hd, _, (rel.put k eb rv).keeps fun c ys ec => ?_, q, es, ep, hq, h2, h3, h4, h5⟩
    rw [upd_ne (ne_of ec e (fun z => nomatch z))]
    exact ec
end

section
variable {X : Cx} {pins : List (Addr × Obj)} {σ : St} {H : Hp} {s : Shared} {a : Addr} {kvs : List (Key × V)} {k : Key} {u : Value} {A : Around} {E : Value → Shared → Prop}
end

/-! ### readings and rules -/
/-- the element of a subscription, not a slice -/
def NoSl (i : Expr) : Prop := ∀ ov iv, subscripted i false ov iv = operate [ov, iv] (getItem ov iv)
theorem subD_of {prog : Program} {w : World} {A : Around} {E : Value → Shared → Prop} {s : Shared} {env : Env} {value slice : Expr} {pos : Pos} {T id : String} {Q : Value → Shared → Prop}
    (hl : typeLookup (.type T) "__getitem__" = pure (some (.builtin id))) (hs : NoSl slice)
    (h : wpAny (model prog w) A (eval value env) (fun o s₁ => wpAny (model prog w) A (eval slice env) (fun i s₂ => s₂.TypeIs o T ∧ wpAny (model prog w) A (getItem o i) Q E s₂) E s₁) E s) :
    wpAny (model prog w) A (eval (.Subscript value slice pos) env) Q E s := by
  refine Subscript_ (wpAny_mono h (fun o s₁ h₁ => wpAny_mono h₁ (fun i s₂ h₂ => ?_) fun _ _ x => x) fun _ _ x => x)
  obtain ⟨hT, h₂⟩ := h₂
  unfold subscriptTail
  refine wpAny_bind ?_
  rw [getitemInPython_of_ne hT.not_modules]
  refine wpAny_bind (wpAny_specialOf hT hl ?_)
  have fin : wpAny (model prog w) A (subscripted slice false o i) (fun r s₃ => wpAny (model prog w) A (letTemporaryGo value o r >>= fun _ => pure r) Q E s₃) E s₂ := by
    rw [hs o i]
    exact wpAny_operating (wpAny_mono h₂ (fun r s₃ h₃ => wpAny_bind (wpAny_letTemporaryGo (wpAny_pure h₃))) fun _ _ x => x)
  first
    | exact wpAny_pure (wpAny_bind fin)
    | exact wpAny_bind (wpAny_pure (wpAny_bind fin))
    | exact wpAny_bind fin

/-- y in d, y not in d -/
def tDIn (ty td : TE) : TE := fun σ H Q => ty σ H fun y H1 => td σ H1 fun x H2 => ∃ a o, x = .ref a ∧ DGet H2 a y o ∧ Q (.bl o.isSome) H2
def tDNotIn (ty td : TE) : TE := fun σ H Q => ty σ H fun y H1 => td σ H1 fun x H2 => ∃ a o, x = .ref a ∧ DGet H2 a y o ∧ Q (.bl (!o.isSome)) H2
/-- d[y] = v -/
def sDPut (td ty tv : TE) : TS := fun D σ H => tv σ H fun v H1 => td σ H1 fun x H2 => ty σ H2 fun y H3 => ∃ a H4, x = .ref a ∧ DPut H3 a y v H4 ∧ D.nx σ H4

section
variable {X : Cx} {o i e value : Expr} {pos pos' tpos : Pos} {td ty tv : TE}
theorem pc_din (hu : X.A.units + 1 < cLine) (hi : PE X i ty) (ho : PE X o td) : PC X .In i o (tDIn ty td) := by
  intro pins s σ H Q I h
  refine thn (hi pins s σ H _ I h) fun iv s1 ⟨y, H1, I1, ry, q1⟩ => thn (ho pins s1 σ H1 _ I1 q1) fun u s2 ⟨x, H2, I2, rx, a, ov, ex, g, q2⟩ => ?_
  subst ex
  obtain rfl : u = Value.ref a := rx
  exact d_in hu I2 g ry fun s3 I3 => ⟨.bl ov.isSome, H2, I3, rfl, q2⟩
theorem pc_dnotin (hu : X.A.units + 1 < cLine) (hi : PE X i ty) (ho : PE X o td) : PC X .NotIn i o (tDNotIn ty td) := by
  intro pins s σ H Q I h
  refine thn (hi pins s σ H _ I h) fun iv s1 ⟨y, H1, I1, ry, q1⟩ => thn (ho pins s1 σ H1 _ I1 q1) fun u s2 ⟨x, H2, I2, rx, a, ov, ex, g, q2⟩ => ?_
  subst ex
  obtain rfl : u = Value.ref a := rx
  exact d_notIn hu I2 g ry fun s3 I3 => ⟨.bl (!ov.isSome), H2, I3, rfl, q2⟩
theorem ps_dput (hu : X.A.units + 1 < cLine) (ho : PE X o td) (hi : PE X i ty) (hv : PE X value tv) (hs : swapsWith value (some (.Subscript o i pos')) pos.line X.env = pure false) :
    PS X (.Assign [.Subscript o i pos'] value pos) (sDPut td ty tv) := by
  intro pins s σ H D I h
  refine wpAny_Assign_Subscript (thn (hv pins s σ H _ I h) fun r s1 ⟨v, H1, I1, rv, q1⟩ => thn (ho pins s1 σ H1 _ I1 q1) fun u s2 ⟨x, H2, I2, rx, q2⟩ => thn (hi pins s2 σ H2 _ I2 q2) fun iv s3 ⟨y, H3, I3, ry, a, H4, ex, g, q3⟩ => ?_) hs
  subst ex
  obtain rfl : u = Value.ref a := rx
  exact d_setItem hu I3 g ry rv fun s4 I4 => ⟨σ, H4, I4, q3⟩
end

/-! ### displays -/
theorem dk_empty {P : Program} {w : World} {H : Hp} (h : Heap) (hb : sysModules < h.objs.size) : ObjOk P w H (h.push { cls := .type "dict", data := .dict #[] }) h.objs.size (.dK []) :=
  ⟨Nat.zero_le _, beq_eq_false_iff_ne.mpr (Ne.symm (Nat.ne_of_lt hb)), [], .nil, Heap.DictOf.new h⟩
/-- {}, to be a dict of the kind that is wanted -/
def tDNewK : TE := fun _ H Q => ∀ p, H p = none → Q (.ref p) (upd H p (.dK []))
section
variable {X : Cx} {pos : Pos}
theorem pe_dnewK : PE X (.Dict [] [] pos) tDNewK := fun pins s σ H Q I h =>
  wpAny_Dict_empty ⟨.ref s.heap.objs.size, _, I.laid (a := s.heap.objs.size) (o := .dK []) (t' := s.toks) (fun _ _ q => Heap.get?_push_of_some _ q) (Nat.le_refl _) (dk_empty s.heap I.big), rfl, h _ (I.hok.fresh (Nat.le_refl _))⟩
end

/-- the pairs of a display, from the left -/
def tPairs : List (TE × TE) → St → Hp → (List (V × V) → Hp → Prop) → Prop
  | [], _, H, Q => Q [] H
  | (tk, tv) :: r, σ, H, Q => tk σ H fun x H1 => tv σ H1 fun y H2 => tPairs r σ H2 fun ps H3 => Q ((x, y) :: ps) H3
abbrev VV : List (V × V) → List (Value × Value) → Prop := Paired fun p q => RelV p.1 q.1 ∧ RelV p.2 q.2
def PPs (X : Cx) (pos : Pos) (keys : List (Option Expr)) (values : List Expr) (trs : List (TE × TE)) : Prop :=
  ∀ (pins : List (Addr × Obj)) (s : Shared) (σ : St) (H : Hp) (Q : List (V × V) → Hp → Prop), Inv X pins σ H s → tPairs trs σ H Q →
    wpAny (model X.prog X.w) X.A (evalPairs (pairTrees keys values X.env pos)) (fun vs s' => ∃ ps H', Inv X pins σ H' s' ∧ VV ps vs ∧ Q ps H') X.xe s
theorem pps_nil {X : Cx} {pos : Pos} : PPs X pos [] [] [] := fun pins s σ H Q I h => pairTrees_nil_walk ⟨[], H, I, .nil, h⟩
theorem pps_cons {X : Cx} {pos : Pos} {k v : Expr} {ks : List (Option Expr)} {vs : List Expr} {tk tv : TE} {trs : List (TE × TE)} (hk : PE X k tk) (hv : PE X v tv) (hr : PPs X pos ks vs trs) :
    PPs X pos (some k :: ks) (v :: vs) ((tk, tv) :: trs) := fun pins s σ H Q I h =>
  pairTrees_cons_walk (thn (hk pins s σ H _ I h) fun u s1 ⟨x, H1, I1, rx, q1⟩ => thn (hv pins s1 σ H1 _ I1 q1) fun w2 s2 ⟨y, H2, I2, ry, q2⟩ =>
    thn (hr pins s2 σ H2 _ I2 q2) fun ws s3 ⟨ps, H3, I3, rel, q3⟩ => ⟨(x, y) :: ps, H3, I3, .cons ⟨rx, ry⟩ rel, q3⟩)

def mergeK (kvs more : List (Key × V)) : List (Key × V) := more.foldl (fun acc kv => putK acc kv.1 kv.2) kvs
theorem KV.merge : ∀ {more : List (Key × V)} {rs : List (Key × Value)} {kvs : List (Key × V)} {vs : List (Key × Value)}, KV more rs → KV kvs vs → KV (mergeK kvs more) (merged vs rs) := by
  intro more rs kvs vs r
  unfold KV at r
  induction r generalizing kvs vs with
  | nil => intro q; exact q
  | @cons p q ps qs h t ih =>
    intro r0
    have e : KV (putK kvs p.1 p.2) (stored vs q.1 q.2) := by
      have := r0.put p.1 h.2
      rw [← h.1]; exact this
    exact ih e
theorem length_mergeK : ∀ (more kvs : List (Key × V)), (mergeK kvs more).length ≤ kvs.length + more.length
  | [], kvs => by show kvs.length ≤ kvs.length + 0; omega
  | p :: r, kvs => by
    have h1 := length_mergeK r (putK kvs p.1 p.2)
    have h2 := length_putK kvs p.1 p.2
    show (mergeK (putK kvs p.1 p.2) r).length ≤ _
    rw [List.length_cons]; omega
theorem carries_of {P : Program} {w : World} : ∀ {kvs : List (Key × V)} {ws : List (Value × Value)}, VV (kvs.map fun kv => (kV kv.1, kv.2)) ws → ∃ rs, Carries (mixKind P w) ws rs ∧ KV kvs rs
  | [], _, r => by rw [List.map_nil] at r; cases r; exact ⟨[], True.intro, .nil⟩
  | p :: kvs, _, r => by
    rw [List.map_cons] at r
    cases r with
    | @cons a b as bs h t =>
      obtain ⟨rs, c, q⟩ := carries_of (P := P) (w := w) t
      obtain ⟨b1, b2⟩ := b
      exact ⟨(p.1, b2) :: rs, ⟨kV_is h.1, rfl, c⟩, .cons ⟨rfl, h.2⟩ q⟩
/-- {k: v, ..} with keys ints and texts; the new dict stands empty while the pairs are made -/
def tDisp (trs : List (TE × TE)) : TE := fun σ H Q => ∀ p, H p = none → tPairs trs σ (upd H p (.dK [])) fun ps H2 => H2 p = some (.dK []) ∧ ∃ kvs : List (Key × V), ps = kvs.map (fun kv => (kV kv.1, kv.2)) ∧ kvs.length ≤ 15 ∧ Q (.ref p) (upd H2 p (.dK (mergeK [] kvs)))
theorem pe_disp {X : Cx} {pos : Pos} {keys : List (Option Expr)} {values : List Expr} {trs : List (TE × TE)} (h : PPs X pos keys values trs) (hall : keys.all (·.isSome) = true) (hl : keys.length = values.length) (h0 : keys ≠ [])
    (h15 : keys.length ≤ 15) : PE X (.Dict keys values pos) (tDisp trs) := by
  intro pins s σ H Q I q
  have hn := I.hok.fresh (Nat.le_refl s.heap.objs.size)
  have I1 := I.laid (a := s.heap.objs.size) (o := .dK []) (h' := s.heap.push { cls := .type "dict", data := .dict #[] }) (t' := s.toks) (fun _ _ q => Heap.get?_push_of_some _ q) (Nat.le_refl _) (dk_empty s.heap I.big)
  refine wpAny_Dict_walk (knd := mixKind X.prog X.w) hall hl h0 h15 (thn (h pins _ σ _ _ I1 (q _ hn)) fun ws s2 ⟨ps, H2, I2, rel, e, kvs, ep, lk, q2⟩ => ?_)
  subst ep
  obtain ⟨rs, c, rk⟩ := carries_of (P := X.prog) (w := X.w) rel
  obtain ⟨z, hd, vs0, r0, dd⟩ := dk_of I2.hok e
  cases r0
  refine ⟨rs, c, dd, fun h' dd' hs => ⟨.ref s.heap.objs.size, _, ?_, rfl, q2⟩⟩
  have hz : (mergeK [] kvs).length ≤ sizeLine := by
    have h1 := length_mergeK kvs []
    rw [List.length_nil] at h1
    rw [sizeLine_eq]; omega
  have he : ∃ q, h'.get? s.heap.objs.size = some q := let ⟨q, _, _, hq, _⟩ := dd'; ⟨q, hq⟩
  exact d_write I2 (by rw [e]; exact True.intro) hs he (dk_new hz hd (rk.merge .nil) dd')

/-! ### methods -/
structure M2 (X : Cx) (o : Expr) (m : Str) (apos : Pos) (e f : Expr) (cpos : Pos) : Prop where
  base : attributeBase o m X.env (eval o X.env) = eval o X.env
  few : ((backTo cpos (starEach [e, f] X.env)).all (fun x => !x.1) && (backToKw cpos (keywordEach [] X.env)).all (fun x => x.1.isSome)
    && decide (([e, f] : List Expr).length + ([] : List Keyword).length + (if ([] : List Keyword).isEmpty then 0 else 1) < 30)) = true
  line : (apos.endLine == cpos.line) = true
  trees : backTo cpos (starEach [e, f] X.env) = [(false, eval e X.env), (false, eval f X.env)]

section
variable {X : Cx} {pins : List (Addr × Obj)} {σ : St} {H : Hp} {s : Shared} {a : Addr} {y d : V} {u r : Value} {o : Option V} {A : Around} {E : Value → Shared → Prop}
end

section
variable {X : Cx} {o e f : Expr} {apos cpos : Pos} {td ty tx : TE}
end

/-! ### dict(d): a copy -/
section
variable {X : Cx} {pins : List (Addr × Obj)} {σ : St} {H : Hp} {s : Shared} {a : Addr} {kvs : List (Key × V)} {A : Around} {E : Value → Shared → Prop}
end

section
variable {X : Cx} {pins : List (Addr × Obj)} {σ : St} {H : Hp} {s : Shared} {a : Addr} {y : V} {u : Value} {A : Around} {E : Value → Shared → Prop}
end
end L2

namespace L2
open PySem PySem.Spec PyProof.Rows

section
variable {prog : Program} {w : World} {A : Around} {E : Value → Shared → Prop}

end

section
variable {X : Cx}
end
end L2

namespace L2
open PySem PySem.Spec PyProof.Rows

section
variable {X : Cx} {pins : List (Addr × Obj)} {σ : St} {H : Hp} {s : Shared} {h' : Heap}
/-- .. and one new object is laid -/
theorem Inv.turnedNew {t' : Nat} {ch : List Addr} {T : Addr} {ob : HO} (I : Inv X pins σ H s) (k : ∀ b o, b ∉ ch → s.heap.get? b = some o → h'.get? b = some o) (hf : ∀ b ∈ ch, FpOk X pins H b) (hT : s.heap.objs.size ≤ T)
    (new : ObjOk X.prog X.w (upd H T ob) h' T ob) : Inv X pins σ (upd H T ob) { s with heap := h', toks := t' } := by
  have hn : H T = none := I.hok.fresh hT
  have nit : ∀ b u, H b = some u → b ∉ ch := fun b u e z => by
    have q := (hf b z).1
    rw [q] at e; cases e
  refine I.step (g' := s.gens) (d' := s.drawn) (ch := ch) (fun b hb => ⟨(hf b hb).2.2.2.1, (hf b hb).2.1, (hf b hb).2.2.2.2.1, (hf b hb).2.2.2.2.2⟩) (fun b o _ _ hc e _ => k b o hc e) (fun b o _ _ hc e _ => ⟨o.slots, k b o hc e⟩)
    (fun b o _ e n => ?_) (fun b o hc e => ⟨o, k b o hc e⟩) (fun b xs e => ?_) (fun b o u e => ?_) (fun b ps e => ⟨#[], ?_⟩) (fun m hm => ?_) (fun b u e => ?_) I.bare
  · rw [upd_ne (Nat.ne_of_lt (Nat.lt_of_lt_of_le (Heap.lt_size e) hT))]; exact n
  · rw [upd_ne (ne_of_none e hn)]; exact e
  · rw [upd_ne (ne_of_none e hn)]; exact e
  · rw [upd_ne (ne_of_none e hn), e]; simp
  · obtain ⟨o, es, ep, ho, r⟩ := hm
    exact ⟨o, es, ep, k _ o (fun z => (hf _ z).2.1 rfl) ho, r⟩
  · by_cases hb : b = T
    · subst hb
      rw [upd_same] at e
      cases e
      exact new
    · rw [upd_ne hb] at e
      refine (I.hok b u e).stay (fun c v hc q => k c v ?_ q) (fun c q => by rw [upd_ne (ne_of_none q hn)]; exact q) fun c xs q => by rw [upd_ne (ne_of_none q hn)]; exact q
      rcases hc with z | z
      · rw [z]; exact nit b u e
      · exact nit c _ z

/-! ### locking a thing while a statement runs -/
theorem Inv.lock {d : Addr} {u : HO} (I : Inv X pins σ H s) (h : H d = some u) (mu : Mut (some u)) : ∃ od, Inv X pins σ (upd H d (.frz od u)) s := by
  have x := I.hok d u h
  have ex : ∃ od, s.heap.get? d = some od := by
    cases u with
    | lst xs => obtain ⟨_, _, _, _, e⟩ := x; exact ⟨_, e⟩
    | dK kvs => obtain ⟨_, _, _, _, o, _, _, e, _⟩ := x; exact ⟨o, e⟩
    | dT kvs => obtain ⟨_, _, _, _, o, _, _, e, _⟩ := x; exact ⟨o, e⟩
    | set S n => obtain ⟨o, _, _, _, e, _⟩ := x; exact ⟨o, e⟩
    | ins C dx fs => obtain ⟨_, _, _, e, _⟩ := x; exact ⟨_, e⟩
    | ext φ => obtain ⟨_, ⟨_, e⟩, _⟩ := x; exact ⟨_, e⟩
    | _ => exact False.elim mu
  obtain ⟨od, e⟩ := ex
  have new : ObjOk X.prog X.w (upd H d (.frz od u)) s.heap d (.frz od u) := by
    refine ⟨e, x.stay (fun b v _ q => q) (fun b q => ?_) fun b xs q => ?_⟩
    · rw [upd_ne (fun z => by rw [z, h] at q; cases q; exact mu)]; exact q
    · rw [upd_ne (fun z => by rw [z, h] at q; cases q; exact mu)]; exact q
  exact ⟨od, I.write (x := d) (e := d) (t' := s.toks) (h' := s.heap) (by rw [h]; exact mu) (.inl rfl) (fun b v _ q => q) ⟨od, e⟩ new⟩
theorem Inv.nofrz {d : Addr} {u : HO} (I : Inv X pins σ H s) (h : H d = some u) (mu : Mut (some u)) : ∀ o' u', X.H_0 d ≠ some (.frz o' u') := fun o' u' e => by
  have q := I.base.frzs d o' u' e
  rw [h] at q
  cases q
  exact mu
theorem Inv.unlock {d : Addr} {od : Obj} {u : HO} (I : Inv X pins σ H s) (h : H d = some (.frz od u)) (hn : ∀ o' u', X.H_0 d ≠ some (.frz o' u')) : Inv X pins σ (upd H d u) s := by
  have neH : ∀ b o, H b = some o → (∀ o' u', o ≠ .frz o' u') → b ≠ d := fun b o e hne z => by
    rw [z, h] at e
    cases e
    exact hne _ _ rfl
  have neN : ∀ b, H b = none → b ≠ d := fun b e z => by rw [z, h] at e; cases e
  refine ⟨I.ok, I.os, I.bare, ⟨I.base.keep, I.base.slot, fun b o e n hx => ?_, I.base.there, fun b xs e => ?_, fun b o x e => ?_, fun b ps e => ?_⟩, I.loc, I.cell, ?_, fun x c e => ?_, fun p hp => ?_, fun b o e => ?_, I.len⟩
  · rw [upd_ne (neN b (I.base.free b o e n hx))]; exact I.base.free b o e n hx
  · have q := I.base.tups b xs e
    rw [upd_ne (neH b _ q (fun _ _ z => nomatch z))]; exact q
  · have q := I.base.frzs b o x e
    rw [upd_ne (fun z => by rw [z] at e; exact hn _ _ e)]; exact q
  · obtain ⟨m, q⟩ := I.base.tbls b ps e
    exact ⟨m, by rw [upd_ne (neH b _ q (fun _ _ z => nomatch z))]; exact q⟩
  · rw [upd_ne (neN _ I.free)]; exact I.free
  · rw [upd_ne (neN c (I.freeC x c e))]; exact I.freeC x c e
  · obtain ⟨e, n, r⟩ := I.pin p hp
    exact ⟨e, by rw [upd_ne (neN _ n)]; exact n, r⟩
  · by_cases hb : b = d
    · rw [hb, upd_same] at e
      cases e
      rw [hb]
      obtain ⟨_, x⟩ := I.hok d _ h
      exact x.stay (fun c v _ q => q) (fun c q => by rw [upd_ne (neH c _ q (fun _ _ z => nomatch z))]; exact q) fun c xs q => by rw [upd_ne (neH c _ q (fun _ _ z => nomatch z))]; exact q
    · rw [upd_ne hb] at e
      exact (I.hok b o e).stay (fun c v _ q => q) (fun c q => by rw [upd_ne (neH c _ q (fun _ _ z => nomatch z))]; exact q) fun c xs q => by rw [upd_ne (neH c _ q (fun _ _ z => nomatch z))]; exact q
end
/-- the statement runs while the thing at d is locked (read, not written); d and what stands there are the reading's choice -/
def tLock (t : TS) : TS := fun D σ H => ∃ d u, H d = some u ∧ Mut (some u) ∧ ∀ od, t ⟨fun σ' H' => H' d = some (.frz od u) ∧ D.nx σ' (upd H' d u), fun v H' => H' d = some (.frz od u) ∧ D.rt v (upd H' d u), fun σ' H' => H' d = some (.frz od u) ∧ D.bk σ' (upd H' d u), fun σ' H' => H' d = some (.frz od u) ∧ D.ct σ' (upd H' d u)⟩ σ (upd H d (.frz od u))
def tLockE (t : TE) : TE := fun σ H Q => ∃ d u, H d = some u ∧ Mut (some u) ∧ ∀ od, t σ (upd H d (.frz od u)) fun v H' => H' d = some (.frz od u) ∧ Q v (upd H' d u)
section
variable {X : Cx}
theorem ps_lock {st : Stmt} {t : TS} (h : PS X st t) : PS X st (tLock t) := by
  intro pins s σ H D I hw
  obtain ⟨d, u, hd, mu, hw⟩ := hw
  obtain ⟨od, I1⟩ := I.lock hd mu
  refine thn (h pins s σ _ _ I1 (hw od)) fun f s1 q => ?_
  cases f with
  | next => obtain ⟨σ', H', I2, e, q⟩ := q; exact ⟨σ', _, I2.unlock e (I.nofrz hd mu), q⟩
  | brk => obtain ⟨σ', H', I2, e, q⟩ := q; exact ⟨σ', _, I2.unlock e (I.nofrz hd mu), q⟩
  | cont => obtain ⟨σ', H', I2, e, q⟩ := q; exact ⟨σ', _, I2.unlock e (I.nofrz hd mu), q⟩
  | ret v => obtain ⟨x, σ', H', I2, r, e, q⟩ := q; exact ⟨x, σ', _, I2.unlock e (I.nofrz hd mu), r, q⟩
theorem pe_lock {e : Expr} {t : TE} (h : PE X e t) : PE X e (tLockE t) := by
  intro pins s σ H Q I hw
  obtain ⟨d, u, hd, mu, hw⟩ := hw
  obtain ⟨od, I1⟩ := I.lock hd mu
  refine thn (h pins s σ _ _ I1 (hw od)) fun v s1 ⟨x, H1, I2, r, e2, q⟩ => ?_
  exact ⟨x, _, I2.unlock e2 (I.nofrz hd mu), r, q⟩

/-! ### one iterator just laid -/
theorem pi_one {tg : Expr} {pins : List (Addr × Obj)} {σ : St} {H : Hp} {s : Shared} {R : It → Hp → Prop} {J : It} {tn : Nat → Heap → Prop} {tk : Nat} (I : Inv X pins σ H s) (o : Obj)
    (T : Turn X.prog X.w X.K tg J [s.heap.objs.size] s.heap.objs.size tn) (st : tn 0 (s.heap.push o)) (q : R J H) : PIE X pins σ tg R (.ref s.heap.objs.size) { s with heap := s.heap.push o, toks := tk } := by
  refine ⟨s.heap.objs.size, [s.heap.objs.size], tn, J, H, rfl, I.kept fun b ob e => Heap.get?_push_of_some _ e, T, st, fun b hb => ?_, q⟩
  have e : b = s.heap.objs.size := by simpa using hb
  subst e
  exact I.fpOk (Nat.le_refl _) (I.hok.fresh (Nat.le_refl _))
end

/-! ### range with a step -/
section
variable {X : Cx} {tg : Expr}
end

/-! ### reversed(list) -/
section
variable {X : Cx} {tg : Expr}
end

/-! ### a str -/

/-! ### a dict's keys: any dict's entries -/
section
variable {prog : Program} {w : World} {A : Around} {E : Value → Shared → Prop} {s : Shared}
theorem iter_keys {d : Addr} {o : Obj} {es : Array DictEntry} {ep : Nat} {Q : Value → Shared → Prop} (hd : (d == sysModules) = false) (ho : s.heap.get? d = some o) (hc : o.ExactDict) (hdat : o.data = .dict es ep)
    (hQ : Q (.ref s.heap.objs.size) { s with heap := s.heap.push { cls := .type "dict_keyiterator", data := .fields #[.ref d, .int 0 0, .int es.size 0, .int ep 0] } }) :
    wpAny (model prog w) A (pyIter (.ref d)) Q E s := by
  have hT : s.TypeIs (.ref d) "dict" := ⟨o, ho, hc.1⟩
  refine wpAny_pyIter_slot hT F.slot_dict_iter (wpAny_call_entry F.slot_dict_iter hT F.entry_dict_iter ?_ (F.args_dict_iter_1 _))
  unfold Builtin.«dict.__iter__»
  refine wpAny_bind ?_
  unfold Builtin.Dict.dictSlotNone
  refine wpAny_bind (wpAny_notOrdered_dict hT ?_)
  show wpAny _ _ (pure (Value.ref d)) _ _ s
  refine wpAny_pure ?_
  show wpAny _ _ (Builtin.Dict.showsAll d >>= _) _ _ s
  unfold Builtin.Dict.showsAll
  rw [if_neg (by rw [hd]; exact Bool.false_ne_true)]
  refine wpAny_bind (wpAny_pure ?_)
  refine wpAny_bind (wpAny_dictEntries ho hdat ?_)
  refine wpAny_bind (wpAny_dictEpoch ho hdat ?_)
  refine wpAny_bind (wpAny_newObj_type (wpAny_pure ⟨_, rfl, "dict_keyiterator", _, ⟨_, Heap.get?_push_size _ rfl, rfl⟩, F.slot_dict_keyiterator_next.lookup, ?_⟩))
  simpa [rawInt] using hQ
theorem next_key_item {it d : Addr} {i n ep : Nat} {od : Obj} {es : Array DictEntry} {en : DictEntry} {Q : Option Value → Shared → Prop} (hit : s.heap.IsKeyIter it d i n ep) (hod : s.heap.get? d = some od) (hdd : od.data = .dict es ep)
    (hsz : es.size = n) (hx : es[i]? = some en) (hQ : ∀ h', h'.IsKeyIter it d (i + 1) n ep → Heap.SameBut it s.heap h' → Q (some en.key) { s with heap := h' }) : wpAny (model prog w) A (pyNext (.ref it)) Q E s := by
  obtain ⟨o, ho, hc, hd⟩ := id hit
  unfold pyNext
  refine wpAny_bind (wpAny_attempt (wpAny_callSpecial?_slot (name := Str.ofString "__next__") hit.typeIs F.slot_dict_keyiterator_next
    (wpAny_call_entry F.slot_dict_keyiterator_next hit.typeIs F.entry_dict_keyiterator_next ?_ (F.args_dict_keyiterator_next_1 _))))
  refine wpAny_bind (wpAny_pure ?_)
  refine wpAny_bind ?_
  refine wpAny_bind ?_
  first | refine wpAny_bind (wpAny_typeNameOfWhole_keyiter hit.typeIs (wpAny_pure ?_)) | refine wpAny_bind (wpAny_typeNameOf_keyiter hit.typeIs (wpAny_pure ?_))
  refine wpAny_bind (wpAny_fieldsOf ho hd ?_)
  have hown : Builtin.Dict_items.ownsTuple "dict_keyiterator" = false := by decide
  simp only [hown, Bool.false_eq_true, if_false]
  show wpAny _ _ (if (Value.ref d == Value.none) = true then _ else _) _ _ s
  rw [if_neg (show ¬ ((Value.ref d == Value.none) = true) from Bool.false_ne_true)]
  refine wpAny_bind (wpAny_pure ?_)
  refine wpAny_bind (wpAny_dictEntries hod hdd ?_)
  rw [if_neg (by rw [hsz]; simp)]
  refine wpAny_bind (wpAny_pure ?_)
  refine wpAny_bind (wpAny_dictEpoch hod hdd ?_)
  rw [if_neg (by simp)]
  refine wpAny_pure ?_
  obtain ⟨hlt', hen⟩ := Array.getElem?_eq_some_iff.mp hx
  simp only [show ¬ ((i : Int) < 0) from by omega, if_false, Int.toNat_natCast, Array.getElem?_eq_getElem hlt']
  refine wpAny_bind ?_
  first | refine wpAny_bind (wpAny_typeNameOfWhole_keyiter hit.typeIs (wpAny_pure ?_)) | refine wpAny_bind (wpAny_typeNameOf_keyiter hit.typeIs (wpAny_pure ?_))
  refine wpAny_bind (wpAny_isOneOf_keyiter hit.typeIs ?_)
  show wpAny _ _ (setField (.ref it) 1 (rawInt ((i : Int) + 1)) >>= _) _ _ s
  refine wpAny_bind (wpAny_setField ho hd (by simp) ?_)
  have hit' : (s.heap.update it (Obj.mapFields (·.setIfInBounds 1 (rawInt ((i : Int) + 1))))).IsKeyIter it d (i + 1) n ep :=
    ⟨_, Heap.get?_update_self _ ho (Obj.isFreed_of_fields (Obj.data_mapFields hd _)), (Obj.cls_mapFields ..).trans hc, by rw [Obj.data_mapFields hd]; simp [rawInt]⟩
  refine wpAny_bind (wpAny_holding ?_)
  refine wpAny_bind (wpAny_isOneOf_keyiter (s := { s with heap := s.heap.update it (Obj.mapFields (·.setIfInBounds 1 (rawInt ((i : Int) + 1)))) }) hit'.typeIs ?_)
  show wpAny _ _ (pure es[i].key) _ _ _
  rw [hen]
  exact wpAny_pure (wpAny_pure ⟨_, rfl, wpAny_pure (hQ _ hit' (Heap.SameBut.update ..))⟩)
theorem next_key_end {it d : Addr} {i n ep : Nat} {od : Obj} {es : Array DictEntry} {Q : Option Value → Shared → Prop} (hh : A.handled = none) (hit : s.heap.IsKeyIter it d i n ep) (hod : s.heap.get? d = some od) (hdd : od.data = .dict es ep)
    (hsz : es.size = n) (hge : n ≤ i) (hQ : ∀ h', Heap.ExtBut it s.heap h' → Q none { s with heap := h' }) : wpAny (model prog w) A (pyNext (.ref it)) Q E s := by
  obtain ⟨o, ho, hc, hd⟩ := id hit
  unfold pyNext
  refine wpAny_bind (wpAny_attempt (wpAny_callSpecial?_slot (name := Str.ofString "__next__") hit.typeIs F.slot_dict_keyiterator_next
    (wpAny_call_entry F.slot_dict_keyiterator_next hit.typeIs F.entry_dict_keyiterator_next ?_ (F.args_dict_keyiterator_next_1 _))))
  refine wpAny_bind (wpAny_pure ?_)
  refine wpAny_bind ?_
  refine wpAny_bind ?_
  first | refine wpAny_bind (wpAny_typeNameOfWhole_keyiter hit.typeIs (wpAny_pure ?_)) | refine wpAny_bind (wpAny_typeNameOf_keyiter hit.typeIs (wpAny_pure ?_))
  refine wpAny_bind (wpAny_fieldsOf ho hd ?_)
  have hown : Builtin.Dict_items.ownsTuple "dict_keyiterator" = false := by decide
  simp only [hown, Bool.false_eq_true, if_false]
  show wpAny _ _ (if (Value.ref d == Value.none) = true then _ else _) _ _ s
  rw [if_neg (show ¬ ((Value.ref d == Value.none) = true) from Bool.false_ne_true)]
  refine wpAny_bind (wpAny_pure ?_)
  refine wpAny_bind (wpAny_dictEntries hod hdd ?_)
  rw [if_neg (by rw [hsz]; simp)]
  refine wpAny_bind (wpAny_pure ?_)
  refine wpAny_bind (wpAny_dictEpoch hod hdd ?_)
  rw [if_neg (by simp)]
  refine wpAny_pure ?_
  have hge' : es.size ≤ i := by rw [hsz]; exact hge
  simp only [show ¬ ((i : Int) < 0) from by omega, if_false, Int.toNat_natCast, Array.getElem?_eq_none hge']
  refine wpAny_bind ?_
  first | refine wpAny_bind (wpAny_typeNameOfWhole_keyiter hit.typeIs (wpAny_pure ?_)) | refine wpAny_bind (wpAny_typeNameOf_keyiter hit.typeIs (wpAny_pure ?_))
  show wpAny _ _ (setField (.ref it) 0 .none >>= _) _ _ s
  refine wpAny_bind (wpAny_setField ho hd (by simp) ?_)
  show wpAny _ _ (newExc (.type "StopIteration") [] >>= _) _ _ _
  refine wpAny_bind ?_
  simp only [newExc, newTuple]
  refine wpAny_bind (wpAny_newObj_type ?_ (by size_fits))
  refine wpAny_bind (m := firstArgMember _ _) (wpAny_of_eq (a := Value.none) (by first | rfl | (simp only [firstArgMember]; rfl)) ?_)
  refine wpAny_newObj_type ?_ (by size_fits)
  simp only [raiseNew]
  refine wpAny_bind (wpAny_handled ?_)
  rw [show A.in1.handled = none from hh]
  refine wpAny_bind (wpAny_pure (wpAny_throw ?_))
  refine wpAny_bind (wpAny_isInstance (T := "StopIteration") (b := true) ⟨_, Heap.get?_push_size _ rfl, rfl⟩ isSubtype_stop ?_)
  exact wpAny_pure (hQ _ (((Heap.SameBut.update ..).extBut.push _).push _))
end

/-! ### a locked dict -/
theorem kv_get {κ : Type} {kvs : List (κ × V)} {vs : List (κ × Value)} (h : KV kvs vs) : ∀ {i : Nat} {k : κ} {v : V}, kvs[i]? = some (k, v) → ∃ u, vs[i]? = some (k, u) ∧ RelV v u := by
  unfold KV at h
  induction h with
  | nil => intro i k v e; simp at e
  | @cons a b l₁ l₂ r t ih =>
    intro i k v e
    cases i with
    | zero =>
      simp only [List.getElem?_cons_zero, Option.some.injEq] at e
      subst e
      refine ⟨b.2, ?_, r.2⟩
      simp only [List.getElem?_cons_zero]
      exact congrArg some (Prod.ext r.1.symm rfl)
    | succ j =>
      simp only [List.getElem?_cons_succ] at e ⊢
      exact ih e
theorem paired_get {α β : Type} {G : α → β → Prop} {l₁ : List α} {l₂ : List β} (h : Paired G l₁ l₂) : ∀ {i : Nat} {a : α}, l₁[i]? = some a → ∃ b, l₂[i]? = some b ∧ G a b := by
  induction h with
  | nil => intro i a e; simp at e
  | @cons a b l₁ l₂ r t ih =>
    intro i a' e
    cases i with
    | zero =>
      simp only [List.getElem?_cons_zero, Option.some.injEq] at e
      subst e
      exact ⟨b, rfl, r⟩
    | succ j =>
      simp only [List.getElem?_cons_succ] at e ⊢
      exact ih e
theorem relV_key {k : Key} {u : Value} (h : keyIs k u = true) : RelV (kV k) u := by
  rcases keyIs_shape h with ⟨i, t, rfl, rfl⟩ | ⟨x, t, rfl, rfl⟩
  · exact ⟨t, rfl⟩
  · exact ⟨t, rfl⟩
section
variable {X : Cx} {pins : List (Addr × Obj)} {σ : St} {H : Hp} {s : Shared} {d : Addr} {o : Obj}
theorem Inv.frzK {kvs : List (Key × V)} (I : Inv X pins σ H s) (h : H d = some (.frz o (.dK kvs))) :
    (d == sysModules) = false ∧ s.heap.get? d = some o ∧ o.ExactDict ∧ ∃ (es : Array DictEntry) (ep : Nat) (vs : List (Key × Value)), o.data = .dict es ep ∧ es.size = kvs.length ∧ KV kvs vs ∧ s.heap.DictAt (mixKind X.prog X.w) d vs ep := by
  obtain ⟨hd, z, hs, vs, kv, o', es, ep, ho, hx, hdt, r⟩ := I.hok d _ h
  rw [hd] at ho
  cases ho
  refine ⟨hs, hd, hx, es, ep, vs, hdt, ?_, kv, o, es, hd, hx, hdt, r⟩
  have l1 := r.2.1.length
  have l2 : kvs.length = vs.length := Paired.length kv
  rw [Array.length_toList] at l1
  omega
/-- the same for tuple keys -/
theorem Inv.frzT {kvs : List (List Key × V)} (I : Inv X pins σ H s) (h : H d = some (.frz o (.dT kvs))) :
    (d == sysModules) = false ∧ s.heap.get? d = some o ∧ o.ExactDict ∧ ∃ (es : Array DictEntry) (ep : Nat), o.data = .dict es ep ∧ es.size = kvs.length ∧
      ∀ (i : Nat) (k : List Key) (v : V), kvs[i]? = some (k, v) → ∃ (en : DictEntry) (q : Addr), es[i]? = some en ∧ en.key = .ref q ∧ H q = some (.tup (k.map kV)) := by
  obtain ⟨hd, z, hs, xs, pr, o', es, ep, ho, hx, hdt, he, _⟩ := I.hok d _ h
  rw [hd] at ho
  cases ho
  refine ⟨hs, hd, hx, es, ep, hdt, ?_, fun i k v e => ?_⟩
  · have l1 : es.size = xs.length := size_of_entries he
    have l2 : kvs.length = xs.length := Paired.length pr
    omega
  · obtain ⟨b, hb, e1, e2, _⟩ := paired_get pr e
    have q := entry_at he i
    rw [hb] at q
    exact ⟨_, b.2.1, q, rfl, e2⟩
end

/-- the keys of the locked dict at d, in their order -/
def Itk (d : Addr) (o : Obj) (kvs : List (Key × V)) : It :=
  ⟨fun i H => H d = some (.frz o (.dK kvs)) ∧ i < kvs.length, fun i H x H' => H' = H ∧ ∃ k v, kvs[i]? = some (k, v) ∧ x = kV k, fun i H => H d = some (.frz o (.dK kvs)) ∧ kvs.length ≤ i⟩
/-- .. of tuple keys: the key's own tuple -/
def Itkt (d : Addr) (o : Obj) (kvs : List (List Key × V)) : It :=
  ⟨fun i H => H d = some (.frz o (.dT kvs)) ∧ i < kvs.length, fun i H x H' => H' = H ∧ ∃ (k : List Key) (v : V) (q : Addr), kvs[i]? = some (k, v) ∧ x = .ref q ∧ H q = some (.tup (k.map kV)), fun i H => H d = some (.frz o (.dT kvs)) ∧ kvs.length ≤ i⟩
theorem dict_ep {o : Obj} {es es' : Array DictEntry} {ep ep' : Nat} (h : o.data = .dict es ep) (h' : o.data = .dict es' ep') : es' = es ∧ ep' = ep := by
  rw [h] at h'
  cases h'
  exact ⟨rfl, rfl⟩
section
variable {P : Program} {w : World} {K : PySem.W.Frag} {tg : Expr} {d : Addr} {o : Obj} {es : Array DictEntry} {ep : Nat}
theorem turn_keys {kvs : List (Key × V)} (it : Addr) (hod : o.data = .dict es ep) : Turn P w K tg (Itk d o kvs) [it] it (fun i h => h.IsKeyIter it d i kvs.length ep) where
  mem := by simp
  obj := fun i h st b hb => by
    have e : b = it := by simpa using hb
    subst e
    obtain ⟨oi, e, c, dd⟩ := st
    exact ⟨oi, e, fun v z => by rw [dd] at z; cases z⟩
  keep := fun i h h' st k => st.at fun oi e => k it (by simp) oi e
  item := by
    intro X hP hw hK hc i pins s σ H E I hf st hg
    subst hP hw hK
    obtain ⟨hd, hi⟩ := hg
    obtain ⟨f0, f1, f2, f3, f4, f5⟩ := hf it (by simp)
    obtain ⟨hs, hgd, hx, es', ep', vs, hdt, hsz, kv, hm⟩ := I.frzK hd
    obtain ⟨rfl, rfl⟩ := dict_ep hod hdt
    obtain ⟨⟨k, v⟩, hkv⟩ : ∃ p, kvs[i]? = some p := ⟨kvs[i], List.getElem?_eq_getElem hi⟩
    obtain ⟨u, hu, ru⟩ := kv_get kv hkv
    have hl : kvs.length = vs.length := Paired.length kv
    rw [hl] at st
    refine wpAny_pyNext_dict_item st hm hu fun key h' hkey st' sb => ?_
    have I1 : Inv X pins σ H { s with heap := h' } := I.turned (t' := s.toks) (fun b ob hb e => (sb.2 b hb).trans e) f0 f1 f3 f4 f5
    obtain ⟨oi, e, c, dd⟩ := id st'
    refine ⟨key, rfl, go_of (s := { s with heap := h' }) e c dd (by decide) ⟨kV k, H, I1, relV_key (show keyIs k key = true from hkey), ⟨rfl, k, v, hkv, rfl⟩, ?_, fun b hb => (hf b hb).1⟩⟩
    show h'.IsKeyIter it d (i + 1) kvs.length _
    rw [hl]
    exact st'
  done := by
    intro X hP hw hK hc i pins s σ H E I hf st hg
    subst hP hw hK
    obtain ⟨hd, hi⟩ := hg
    obtain ⟨f0, f1, f2, f3, f4, f5⟩ := hf it (by simp)
    obtain ⟨hs, hgd, hx, es', ep', vs, hdt, hsz, kv, hm⟩ := I.frzK hd
    obtain ⟨rfl, rfl⟩ := dict_ep hod hdt
    exact next_key_end (I.ok.hd hc) st hgd hdt hsz hi fun h' eb => ⟨rfl, I.turned (t' := s.toks) (fun b ob hb e => eb b ob hb e) f0 f1 f3 f4 f5⟩
  self := fun A i s Q E st h => wpAny_pyIter_keyiter st h
theorem turn_keysT {kvs : List (List Key × V)} (it : Addr) (hod : o.data = .dict es ep) : Turn P w K tg (Itkt d o kvs) [it] it (fun i h => h.IsKeyIter it d i kvs.length ep) where
  mem := by simp
  obj := fun i h st b hb => by
    have e : b = it := by simpa using hb
    subst e
    obtain ⟨oi, e, c, dd⟩ := st
    exact ⟨oi, e, fun v z => by rw [dd] at z; cases z⟩
  keep := fun i h h' st k => st.at fun oi e => k it (by simp) oi e
  item := by
    intro X hP hw hK hc i pins s σ H E I hf st hg
    subst hP hw hK
    obtain ⟨hd, hi⟩ := hg
    obtain ⟨f0, f1, f2, f3, f4, f5⟩ := hf it (by simp)
    obtain ⟨hs, hgd, hx, es', ep', hdt, hsz, ent⟩ := I.frzT hd
    obtain ⟨rfl, rfl⟩ := dict_ep hod hdt
    obtain ⟨⟨k, v⟩, hkv⟩ : ∃ p, kvs[i]? = some p := ⟨kvs[i], List.getElem?_eq_getElem hi⟩
    obtain ⟨en, q, hen, hkey, hq⟩ := ent i k v hkv
    refine next_key_item st hgd hdt hsz hen fun h' st' sb => ?_
    have I1 : Inv X pins σ H { s with heap := h' } := I.turned (t' := s.toks) (fun b ob hb e => (sb.2 b hb).trans e) f0 f1 f3 f4 f5
    obtain ⟨oi, e, c, dd⟩ := id st'
    exact ⟨en.key, rfl, go_of (s := { s with heap := h' }) e c dd (by decide) ⟨.ref q, H, I1, hkey, ⟨rfl, k, v, q, hkv, rfl, hq⟩, st', fun b hb => (hf b hb).1⟩⟩
  done := by
    intro X hP hw hK hc i pins s σ H E I hf st hg
    subst hP hw hK
    obtain ⟨hd, hi⟩ := hg
    obtain ⟨f0, f1, f2, f3, f4, f5⟩ := hf it (by simp)
    obtain ⟨hs, hgd, hx, es', ep', hdt, hsz, ent⟩ := I.frzT hd
    obtain ⟨rfl, rfl⟩ := dict_ep hod hdt
    exact next_key_end (I.ok.hd hc) st hgd hdt hsz hi fun h' eb => ⟨rfl, I.turned (t' := s.toks) (fun b ob hb e => eb b ob hb e) f0 f1 f3 f4 f5⟩
  self := fun A i s Q E st h => by
    refine wpAny_pyIter_slot st.typeIs F.slot_dict_keyiterator_iter (wpAny_call_entry F.slot_dict_keyiterator_iter st.typeIs F.entry_dict_keyiterator_iter ?_ (F.args_dict_keyiterator_iter_1 _))
    show wpAny _ _ (ret (.ref it)) _ _ s
    exact wpAny_pure ⟨_, rfl, "dict_keyiterator", _, st.typeIs, F.slot_dict_keyiterator_next.lookup, h⟩
end

/-! ### for k in d, d.keys(), d.values(), d.items() -/
/-- the dict is locked (tLock, or by the caller) -/
def iKeys (td : TE) : TI := fun σ H R => td σ H fun x H1 => ∃ d o, x = .ref d ∧ ((∃ kvs, H1 d = some (.frz o (.dK kvs)) ∧ R (Itk d o kvs) H1) ∨ ∃ kvs, H1 d = some (.frz o (.dT kvs)) ∧ R (Itkt d o kvs) H1)
section
variable {X : Cx} {tg e : Expr} {td : TE} {apos cpos : Pos}
theorem pi_keys (he : PE X e td) : PI X tg e (iKeys td) := by
  intro pins s σ H R I h
  refine thn (he pins s σ H _ I h) fun u s1 ⟨x, H1, I1, rx, d, o, ex, q⟩ => ?_
  subst ex
  obtain rfl : u = Value.ref d := rx
  rcases q with ⟨kvs, hd, q⟩ | ⟨kvs, hd, q⟩
  · obtain ⟨hs, hgd, hx, es, ep, vs, hdt, hsz, kv, hm⟩ := I1.frzK hd
    refine iter_keys hs hgd hx hdt (pi_one (tk := s1.toks) I1 _ (turn_keys _ hdt) ⟨_, Heap.get?_push_size _ rfl, rfl, ?_⟩ q)
    rw [hsz] <;> rfl
  · obtain ⟨hs, hgd, hx, es, ep, hdt, hsz, ent⟩ := I1.frzT hd
    refine iter_keys hs hgd hx hdt (pi_one (tk := s1.toks) I1 _ (turn_keysT _ hdt) ⟨_, Heap.get?_push_size _ rfl, rfl, ?_⟩ q)
    rw [hsz] <;> rfl
end

/-! ### enumerate(list) -/
/-- the list at a as it stands at each turn, each item in a new pair -/
def Ite (K : PySem.W.Frag) (a : Addr) : It :=
  ⟨fun i H => ∃ (xs : List V) (x : V), SqL K H a xs ∧ xs[i]? = some x, fun i H v H' => ∃ T x, v = .ref T ∧ H T = none ∧ H' = upd H T (.tup [.int (i : Nat), x]) ∧ ∀ xs, SqL K H a xs → xs[i]? = some x, fun i H => ∃ xs : List V, SqL K H a xs ∧ xs.length ≤ i⟩
theorem turn_enum {P : Program} {w : World} {K : PySem.W.Frag} {elts : List Expr} {kk : Nat} {tpos : Pos} (a e it : Addr) :
    Turn P w K (.Tuple elts kk tpos) (Ite K a) [e, it] e (fun i h => (∃ old, IsEnum h e it ((i : Nat) : Int) old) ∧ h.IsListIter it a i ∧ e ≠ it) where
  mem := by simp
  obj := fun i h st b hb => by
    obtain ⟨⟨old, he⟩, ⟨o, ho, hc, hd⟩, _⟩ := st
    have e' : b = e ∨ b = it := by simpa using hb
    rcases e' with z | z
    · rw [z]; exact ⟨_, he, fun v q => nomatch q⟩
    · rw [z]; exact ⟨o, ho, fun v q => by rw [hd] at q; cases q⟩
  keep := fun i h h' st k => let ⟨⟨old, he⟩, hi, hne⟩ := st; ⟨⟨old, k e (by simp) _ he⟩, hi.at fun o q => k it (by simp) o q, hne⟩
  item := by
    intro X hP hw hK hc i pins s σ H E I hf st hg
    subst hP hw hK
    obtain ⟨⟨old, he⟩, hit, hne⟩ := st
    obtain ⟨xs, x, hq, hx⟩ := hg
    obtain ⟨its, rv, p, hz⟩ := I.list hq
    obtain ⟨u, hu, ru⟩ := rv.get hx
    have hel : e < s.heap.objs.size := Heap.lt_size he
    have hil : it < s.heap.objs.size := by obtain ⟨_, q, _⟩ := hit; exact Heap.lt_size q
    refine wpAny_pyNext_enum_item he hit p.isList (x := u) (by simpa using hu) hne fun h' ho hit' hT hsz hk => ?_
    refine ⟨_, rfl, wpAny_letOwnedTupleGo_enum (s := { s with heap := h', toks := s.toks + 1 }) ho fun h'' he' sb => ?_⟩
    have hT2 : h''.get? s.heap.objs.size = some { cls := .type "tuple", data := .seq #[.int i s.toks, u] } := (sb.2 _ (Nat.ne_of_gt hel)).trans hT
    have new : ObjOk X.prog X.w (upd H s.heap.objs.size (.tup [.int (i : Nat), x])) h'' s.heap.objs.size (.tup [.int (i : Nat), x]) :=
      ⟨by show 2 ≤ sizeLine; decide, [.int i s.toks, u], .cons ⟨_, rfl⟩ (.cons ru .nil), ⟨_, hT2, rfl, _, rfl⟩⟩
    have I1 : Inv X pins σ (upd H s.heap.objs.size (.tup [.int (i : Nat), x])) { s with heap := h'', toks := s.toks + 1 } :=
      I.turnedNew (ch := [e, it]) (fun b ob hb q => (sb.2 b (fun z => hb (by simp [z]))).trans (hk b ob (fun z => hb (by simp [z])) (fun z => hb (by simp [z])) q)) hf (Nat.le_refl _) new
    refine ⟨.ref s.heap.objs.size, _, I1, rfl, ⟨_, x, rfl, I.hok.fresh (Nat.le_refl _), rfl, fun ys hy => by rw [I.list_inj hy hq]; exact hx⟩, ⟨⟨u, ?_⟩, hit'.at fun o q => (sb.2 it (Ne.symm hne)).trans q, hne⟩, fun b hb => ?_⟩
    · have e1 : ((i + 1 : Nat) : Int) = (i : Int) + 1 := by omega
      rw [e1]; exact he'
    · have hb' : b < s.heap.objs.size := by
        have e' : b = e ∨ b = it := by simpa using hb
        rcases e' with z | z
        · rw [z]; exact hel
        · rw [z]; exact hil
      rw [upd_ne (Nat.ne_of_lt hb')]
      exact (hf b hb).1
  done := by
    intro X hP hw hK hc i pins s σ H E I hf st hg
    subst hP hw hK
    obtain ⟨⟨old, he⟩, hit, hne⟩ := st
    obtain ⟨xs, hq, hx⟩ := hg
    obtain ⟨its, rv, p, hz⟩ := I.list hq
    obtain ⟨f0, f1, f2, f3, f4, f5⟩ := hf it (by simp)
    have hl := rv.length
    exact wpAny_pyNext_enum_end (I.ok.hd hc) he hit p.isList (by simp; omega) fun h' eb => ⟨rfl, I.turned (t' := s.toks) (fun b o hb q => eb b o hb q) f0 f1 f3 f4 f5⟩
  self := fun A i s Q E st h => let ⟨⟨_, he⟩, _⟩ := st; wpAny_pyIter_enum he h
def iEnum (K : PySem.W.Frag) (ta : TA) : TI := fun σ H R => ta σ H fun vs H1 => ∃ a xs, vs = [.ref a] ∧ SqL K H1 a xs ∧ R (Ite K a) H1
theorem pi_enum {X : Cx} {e : Expr} {ta : TA} {p pos tpos : Pos} {elts : List Expr} {kk : Nat} (hg : Gl X "enumerate") (hm : X.mg "enumerate" = none) (ha : PA X [e] ta) (hs : starEach [e] X.env = [(false, eval e X.env)] := by rfl) :
    PI X (.Tuple elts kk tpos) (.Call (.Name "enumerate" p) [e] [] pos) (iEnum X.K ta) := by
  intro pins s σ H R I h
  refine Call_ (ld_blt I hg hm boot_enumerate (PyProof.Rows.callWith_type1 (thn (ha pos pins s σ H _ I h) fun us s1 ⟨vs, H1, I1, r1, q1⟩ => ?_) hs rfl))
  obtain ⟨a, xs, ex, hq, q⟩ := q1
  subst ex
  cases r1 with
  | cons r rr =>
    cases rr
    cases r
    obtain ⟨its, rv, p', hz⟩ := I1.list hq
    refine call_enumerate_list p'.isList fun h' he hit hsz hk => wpAny_pyIter_enum he ?_
    have I2 : Inv X pins σ H1 { s1 with heap := h' } := I1.kept (t' := s1.toks) hk
    refine ⟨s1.heap.objs.size + 1, [s1.heap.objs.size + 1, s1.heap.objs.size], _, _, H1, rfl, I2, turn_enum a (s1.heap.objs.size + 1) s1.heap.objs.size, ⟨⟨.none, he⟩, hit, Nat.succ_ne_self _⟩, fun b hb => ?_, q⟩
    have e' : b = s1.heap.objs.size + 1 ∨ b = s1.heap.objs.size := by simpa using hb
    have hle : s1.heap.objs.size ≤ b := by
      rcases e' with z | z
      · rw [z]; exact Nat.le_add_right _ _
      · rw [z]; exact Nat.le_refl _
    exact I1.fpOk hle (I1.hok.fresh hle)
/-! ### zip(list, list) -/
end L2

section 
namespace Bits
open PySem PyProof.Rows

end Bits
end 

section 
namespace TL
open PySem PySem.Builtin PySem.Builtin.Str PySem.StrLaws

abbrev tl (x : Str) : List Nat := x.cps.toList

/-! ### the list functions -/

/-! ### the model's split and partition are these -/

/-! ### computing spl and par -/

/-! ### digits -/

/-! ### words: x.split() -/
end TL
end 

namespace L2
open PySem PySem.Spec PyProof.Rows

section
variable {X : Cx} {pins : List (Addr × Obj)} {σ : St} {H : Hp} {s : Shared} {Q : VK}
end

section
variable {X : Cx}

/-! ### of a text alone -/

/-! ### of a text and a text -/

end

section
variable {X : Cx} {o e : Expr} {to te : TE}

end
end L2

namespace L2
open PySem PySem.Spec PyProof.Rows

section
variable {X : Cx}
end

/-! ### slices of a text -/

end L2

namespace Att
open PySem PySem.W PySem.Calls PyProof.Rows

/-! ### the script -/

/-! ### the attachment: holds_open's last premise (the goal 'hc' behind k_head) from a wpAny of the law's body -/

/-! ### rules over ANY heap (no ledger) from facts about the written part K: the library's own take a ledger (News) for what they write -/
section
variable {prog : Program} {w : World} {A : Around} {E : Value → Shared → Prop} {s : Shared} {K : Frag}

/-! the whole heap as the ledger: makes every rule that writes through a ledger a rule over any heap -/

end
end Att

namespace L2
open PySem PySem.Spec PyProof.Rows

end L2

namespace L2
open PySem PySem.Spec PyProof.Rows

abbrev KOf {K : PySem.W.Frag} {h : Heap} (_ : K.In h) : PySem.W.Frag := K

end L2

/- THE LAST THEOREM (shape; LID, My.* are yours):
   My.Adr: a structure of the addresses that your layer names (classes, functions); My.Txt K t: a structure (Prop) of the equations over K;
   My.txt_mk : {K} {implicit addresses ..} (e1 : nsIn K mainGlobals "law" = some (some (.ref f))) (e2 : K.lookup f = some ⟨oc, od, .func (fnOf "law" "law" params body scope dV kV doc pm an cdv ct), sl⟩) (e3 : codeIn K cdv "law" = true) .. : ∃ t, My.Txt K t

set_option maxRecDepth 100000 in
set_option maxHeartbeats 0 in
theorem PySem.Challenge.cw_LID_holds : PySem.Challenge.rw_LID.Holds := by
  w_on; o_law; k_head; (case hw => w_witness2)
  k_fill
  refine L2.walk_of (l := PySem.Challenge.rw_LID) (n := 63) (k := 40) (x := "script") (CX := fun w => ..) (sp := fun _ => My.sp_law) rfl (by decide) rfl ⟨rfl, by decide, by decide⟩ (fun w h Y => PySem.W.kIn_of Y) ?F ?S ?C
  case F =>
    intro w mg fa h KX G hmg
    have T : ∃ t, My.Txt (L2.KOf KX) t := by
      dsimp only [L2.KOf]                          -- K must stand as «<heap const> w.params» for k_is
      refine' My.txt_mk ?e1 ?e2 ?e3 ..
      (case e1 => PySem.W.k_is)                    -- in the order: a name -> its address -> its object -> its parts
      (case e2 => PySem.W.k_is)
      ..
    obtain ⟨t, T⟩ := T
    have e0 := hmg.symm.trans (PySem.W.mg_of KX G T.law)
    cases e0                                       -- fa is the law's own address
    exact ⟨_, fun s u => .of_eq rfl, fun base kb nb => My.law_fn T kb nb⟩     -- if «.of_eq rfl» comes too early: refine' ⟨_, ?b, fun base kb nb => My.law_fn T kb nb⟩; exact fun s u => .of_eq rfl
  case S => exact fun w H a ns hl hO hS => ..
  case C => exact ..
(the tactic k_is has no namespace: write k_is) -/

/-! SHORT WORDS over the layer: a def of the text, its body, what a loop and a test want. -/
namespace L2
open PySem PySem.Spec PyProof.Rows

/-! ### the text by places -/
/-- the j-th statement of a class's body -/
def inClass (s : Stmt) (j : Nat) : Stmt := match s with
  | .ClassDef _ _ _ body _ _ _ _ _ _ _ => body.getD j (.Pass ⟨0, 0, 0, 0⟩)
  | _ => .Pass ⟨0, 0, 0, 0⟩
def defArgs (s : Stmt) : Arguments := match s with
  | .FunctionDef _ a _ _ _ _ _ _ _ _ => a
  | _ => { posonlyargs := [], args := [], vararg := none, kwonlyargs := [], kw_defaults := [], kwarg := none, defaults := [] }
def defBody (s : Stmt) : List Stmt := match s with
  | .FunctionDef _ _ b _ _ _ _ _ _ _ => b
  | _ => []
def defScope (s : Stmt) : Scope := match s with
  | .FunctionDef _ _ _ _ _ _ sc _ _ _ => sc
  | _ => { kind := .function, names := [], isGenerator := false, isCoroutine := false }

/-! ### no exception leaves a def -/
abbrev CX0 : CXT := fun _ _ _ _ _ _ => False
abbrev E0 : XK := fun _ _ _ => False
theorem pass0 {X : Cx} : Passes CX0 X E0 := fun _ _ _ _ _ _ _ h => h.elim

/-! ### a def (or method) of the text as it stands behind the top -/
structure Fun (K : PySem.W.Frag) (x qual : Str) (st : Stmt) (f : Addr) (fd : FuncData) : Prop where
  ex : ∃ (oc : Value) (od : Option Addr) (kV doc pm : Value) (an : Option Addr) (cdv ct : Value) (osl : Array (Option Value)),
    fd = PySem.W.fnOf x qual (defArgs st) (defBody st) (defScope st) .none kV doc pm an cdv ct ∧ K.lookup f = some ⟨oc, od, .func fd, osl⟩ ∧ PySem.W.codeIn K cdv qual = true
  kp : PySem.W.keepIn K (.ref f) = true
section
variable {P : Program} {w : World} {K : PySem.W.Frag} {mg : Str → Option Value} {base : Heap}
/-- THE RULE for a def: its body as a term of rules, and the reading of that term -/
theorem Fun.ok {x qual : Str} {st : Stmt} {f : Addr} {fd : FuncData} {N ps : List Str} {k : Nat} {sp : Sp} (F : Fun K x qual st f fd) (S : FnScope N ps (defScope st)) (len : ∀ vs H Q E, sp vs H Q E → vs.length = ps.length)
    (hbody : ∀ (cdv : Value) (A : Around) (outer : List Env) (s : Shared) (H : Hp) (vs : List V) (Q : VK) (E : XK), Room k (A.deeper (envOfC qual (defScope st) s.heap.objs.size f cdv)) → sp vs H Q E →
      ∃ t, PSs (cxOf CX0 P w K mg base N qual (defScope st) f cdv A outer s H E).nox (defBody st) t ∧ t { nx := fun _ H' => Q .non H', rt := Q } (start N vs) H) : FnOk P w K mg base CX0 (k + 1) f fd ps sp := by
  obtain ⟨oc, od, kV, doc, pm, an, cdv, ct, osl, rfl, lk, hcd⟩ := F.ex
  refine fn_of lk hcd S len fun A outer s H vs Q E hr hsp => ?_
  obtain ⟨t, h, q⟩ := hbody cdv A outer s H vs Q E hr hsp
  exact ⟨t, h.nox, q⟩
/-- how its arguments bind (no defaults): h is «fun _ _ _ _ _ _ us hl => match us, hl with | [_, _], _ => rfl», one _ a parameter -/
theorem Fun.binds {x qual : Str} {st : Stmt} {f : Addr} {fd : FuncData} {ps : List Str} (F : Fun K x qual st f fd)
    (h : ∀ (kV doc pm : Value) (an : Option Addr) (cdv ct : Value) (us : List Value), us.length = ps.length → bindArgs (PySem.W.fnOf x qual (defArgs st) (defBody st) (defScope st) .none kV doc pm an cdv ct) ⟨us, []⟩ = pure (ps.zip us)) : Binds K fd ps [] := by
  obtain ⟨oc, od, kV, doc, pm, an, cdv, ct, osl, rfl, lk, hcd⟩ := F.ex
  exact .all (h kV doc pm an cdv ct)
theorem fun_mk {x qual : Str} {st : Stmt} {f : Addr} {oc : Value} {od an : Option Addr} {osl : Array (Option Value)} {kV doc pm cdv ct : Value} (l : K.lookup f = some ⟨oc, od, .func (PySem.W.fnOf x qual (defArgs st) (defBody st) (defScope st) .none kV doc pm an cdv ct), osl⟩)
    (c : PySem.W.codeIn K cdv qual = true) (k : PySem.W.keepIn K (.ref f) = true) : Fun K x qual st f (PySem.W.fnOf x qual (defArgs st) (defBody st) (defScope st) .none kV doc pm an cdv ct) := ⟨⟨oc, od, kV, doc, pm, an, cdv, ct, osl, rfl, l, c⟩, k⟩
end
theorem hu_of {A : Around} {k : Nat} (hr : Room k A) : A.units + 1 < cLine := Nat.lt_of_le_of_lt (Nat.add_le_add_left (by decide : 1 ≤ 64) _) hr.units

/-! ### expressions in short: the name that stands in the i-th slot -/
section
variable {X : Cx}
theorem pv (i : Nat) {x : Str} {pos : Pos} (hN : X.N[i]? = some x := by rfl) (hv : Vis X.env.scope x := by first | exact Or.inl rfl | exact Or.inr (Or.inl rfl) | exact Or.inr (Or.inr rfl)) (hd : (x == ("__debug__" : Str)) = false := by decide)
    (hcd : (x == ("__classdict__" : Str)) = false := by decide) : PE X (.Name x pos) (tVar i) := pe_var hN hv hd hcd
end

/-! ### tests -/
theorem iteF {A B : Prop} (h : B) : if false = true then A else B := by
  rw [if_neg Bool.false_ne_true]
  exact h
theorem iteT {A B : Prop} (h : A) : if true = true then A else B := by
  rw [if_pos rfl]
  exact h
theorem ite2 {c A B : Prop} [Decidable c] (h1 : c → A) (h2 : ¬ c → B) : if c then A else B := by
  by_cases h : c
  · rw [if_pos h]
    exact h1 h
  · rw [if_neg h]
    exact h2 h

/-! ### heaps -/
/-- all that was tracked is as it was -/
def Same (H H' : Hp) : Prop := ∀ b o, H b = some o → H' b = some o
theorem Same.refl (H : Hp) : Same H H := fun _ _ h => h
theorem Same.trans {H H1 H2 : Hp} (a : Same H H1) (b : Same H1 H2) : Same H H2 := fun c o h => b c o (a c o h)
theorem Same.free {H H' : Hp} (e : Same H H') {l : Addr} (h : H' l = Option.none) : H l = Option.none := by
  cases q : H l with
  | none => rfl
  | some o =>
    rw [e l o q] at h
    cases h
theorem Same.seq {K : PySem.W.Frag} {H H' : Hp} {a : Addr} {xs : List V} (e : Same H H') (h : SqL K H a xs) : SqL K H' a xs := by
  rcases h with (h | ⟨o, h⟩) | h
  · exact .inl (.inl (e _ _ h))
  · exact .inl (.inr ⟨o, e _ _ h⟩)
  · exact .inr h

/-! ### a dict's pairs: keys that differ -/
section
variable {κ : Type} [DecidableEq κ]
theorem valV_not {kvs : List (κ × V)} {k : κ} (h : valV kvs k = none) : ¬ k ∈ kvs.map (·.1) := by
  intro m
  obtain ⟨p, hp, e⟩ := List.mem_map.mp m
  have q : (kvs.any fun kv => decide (kv.1 = k)) = true := List.any_eq_true.mpr ⟨p, hp, decide_eq_true e⟩
  rw [valV_any, h] at q
  exact absurd q (by simp)
theorem valV_in {kvs : List (κ × V)} {k : κ} {v : V} (h : valV kvs k = some v) : k ∈ kvs.map (·.1) := by
  have q : (kvs.any fun kv => decide (kv.1 = k)) = true := by
    rw [valV_any, h]
    all_goals rfl
  obtain ⟨p, hp, e⟩ := List.any_eq_true.mp q
  exact List.mem_map.mpr ⟨p, hp, of_decide_eq_true e⟩
theorem nd_snoc : ∀ {l : List κ} {k : κ}, l.Nodup → ¬ k ∈ l → (l ++ [k]).Nodup
  | [], k, _, _ => by simp
  | a :: r, k, h, hk => by
    obtain ⟨h1, h2⟩ := List.nodup_cons.mp h
    show (a :: (r ++ [k])).Nodup
    refine List.nodup_cons.mpr ⟨fun m => ?_, nd_snoc h2 fun m => hk (List.mem_cons.mpr (Or.inr m))⟩
    rcases List.mem_append.mp m with q | q
    · exact h1 q
    · exact hk (List.mem_cons.mpr (Or.inl (List.mem_singleton.mp q).symm))
end
/-! ### lists -/
theorem at_of {xs : List V} {z : Int} {j : Nat} {v : V} (e : z = (j : Int)) (h : xs[j]? = some v) : atI xs z = some v := by
  rw [e]
  exact atI_nat h
/-- a new instance and its __init__ leave all that was tracked as it was -/
theorem Same.made {H H1 : Hp} {x dx C : Addr} (nx : H x = Option.none) (nd : H dx = Option.none) (k : ∀ b o, (upd (upd H dx (.own x)) x (.ins C dx [])) b = some o → b ≠ x → H1 b = some o) : Same H H1 := fun b o e =>
  k b o (by rw [upd_ne (ne_of_none e nx), upd_ne (ne_of_none e nd)]; exact e) (ne_of_none e nx)
end L2
section
set_option Elab.async false
set_option linter.all false
set_option maxRecDepth 100000
set_option maxHeartbeats 2000000
namespace L2
open PySem PySem.Spec PyProof.Rows
open PySem.W (WData Codec OpenSpec Well WellAll ReadsW ReadsAllW)
/-! ### an answer as data -/
mutual
/-- x stands for the datum d, lists and tuples all the way -/
inductive Dw (K : PySem.W.Frag) (H : Hp) : V → WData → Prop
  | non : Dw K H .non .none
  | bl (b : Bool) : Dw K H (.bl b) (.bool b)
  | int (i : Int) : Dw K H (.int i) (.int i)
  | str (x : Str) : Dw K H (.str x) (.str x)
  | byt (b : Array UInt8) : Dw K H (.byt b) (.bytes b.toList)
  | lst {a : Addr} {xs : List V} {ds : List WData} : SqL K H a xs → DwAll K H xs ds → Dw K H (.ref a) (.list ds)
  | tup {a : Addr} {xs : List V} {ds : List WData} : SqT K H a xs → DwAll K H xs ds → Dw K H (.ref a) (.tuple ds)
inductive DwAll (K : PySem.W.Frag) (H : Hp) : List V → List WData → Prop
  | nil : DwAll K H [] []
  | cons {v : V} {vs : List V} {d : WData} {ds : List WData} : Dw K H v d → DwAll K H vs ds → DwAll K H (v :: vs) (d :: ds)
end
theorem dw_ints {K : PySem.W.Frag} {H : Hp} : ∀ ns : List Int, DwAll K H (ns.map V.int) (ns.map WData.int)
  | [] => .nil
  | n :: r => .cons (.int n) (dw_ints r)
theorem ints_dw {K : PySem.W.Frag} {H : Hp} : ∀ (ns : List Int) (xs : List V), DwAll K H xs (ns.map WData.int) → xs = ns.map V.int
  | [], xs, h => by
    cases h
    rfl
  | n :: r, xs, h => by
    cases h with
    | cons h1 h2 =>
      cases h1
      rw [ints_dw r _ h2] <;> rfl
section
variable {P : Program} {w : World} {K : PySem.W.Frag} {H : Hp} {h : Heap} {R : PySem.W.WRecords} {cl : Str → Option Addr}
theorem sqL_at {a : Addr} {xs : List V} (hok : HOk P w H h) (KX : K.In h) (q : SqL K H a xs) : ∃ (its : List Value) (o : Obj) (n : Nat), Vals xs its ∧ h.get? a = some o ∧ o.cls = .type "list" ∧ o.data = .seq its.toArray n := by
  rcases q with q | ⟨o, its, n, e, hc, _, hd, _, hv⟩
  · obtain ⟨_, its, n, hv, e⟩ := (show ObjOk P w H h a (.lst xs) from q.ok hok)
    exact ⟨its, _, n, hv, e, rfl, rfl⟩
  · exact ⟨its.toList, o, n, hv, KX _ _ e, hc, by simp [hd]⟩
theorem sqT_at {a : Addr} {xs : List V} (hok : HOk P w H h) (KX : K.In h) (q : SqT K H a xs) : ∃ (its : List Value) (o : Obj) (n : Nat), Vals xs its ∧ h.get? a = some o ∧ o.cls = .type "tuple" ∧ o.data = .seq its.toArray n := by
  rcases q with q | ⟨o, its, n, e, hc, hd, _, hv⟩
  · obtain ⟨_, its, hv, o, e, hc, n, hd⟩ := (show ObjOk P w H h a (.tup xs) from q.ok hok)
    exact ⟨its, o, n, hv, e, hc, hd⟩
  · exact ⟨its.toList, o, n, hv, KX _ _ e, hc, by simp [hd]⟩
mutual
theorem Dw.reads (hok : HOk P w H h) (KX : K.In h) : ∀ (d : WData) (v : V) (u : Value), Dw K H v d → RelV v u → ∃ as, ReadsW R cl h u d as
  | .none, _, _, x, r => by
    cases x
    cases r
    exact ⟨_, ReadsW.none⟩
  | .bool b, _, _, x, r => by
    cases x
    cases r
    exact ⟨_, ReadsW.bool b⟩
  | .int i, _, _, x, r => by
    cases x
    obtain ⟨t, rfl⟩ := r
    exact ⟨_, ReadsW.int i t⟩
  | .str s, _, _, x, r => by
    cases x
    obtain ⟨t, rfl⟩ := r
    exact ⟨_, ReadsW.str s t⟩
  | .bytes b, _, _, x, r => by
    cases x
    obtain ⟨t, rfl⟩ := r
    exact ⟨_, ReadsW.bytes _ t⟩
  | .list ds, _, _, x, r => by
    cases x with
    | lst hs ha =>
      cases r
      obtain ⟨its, o, n, rv, ho, hc, hd⟩ := sqL_at hok KX hs
      obtain ⟨as, hr⟩ := Dw.readsAll hok KX ds _ its ha rv
      exact ⟨_, ReadsW.list ho hc hd hr⟩
  | .tuple ds, _, _, x, r => by
    cases x with
    | tup hs ha =>
      cases r
      obtain ⟨its, o, n, rv, ho, hc, hd⟩ := sqT_at hok KX hs
      obtain ⟨as, hr⟩ := Dw.readsAll hok KX ds _ its ha rv
      exact ⟨_, ReadsW.tuple ho hc hd hr⟩
  | .float _, _, _, x, _ => by cases x
  | .dict _, _, _, x, _ => by cases x
  | .bytearray _, _, _, x, _ => by cases x
  | .set _, _, _, x, _ => by cases x
  | .frozenset _, _, _, x, _ => by cases x
  | .obj _ _, _, _, x, _ => by cases x
theorem Dw.readsAll (hok : HOk P w H h) (KX : K.In h) : ∀ (ds : List WData) (vs : List V) (us : List Value), DwAll K H vs ds → Vals vs us → ∃ as, ReadsAllW R cl h us ds as
  | [], _, _, x, r => by
    cases x
    cases r
    exact ⟨_, ReadsAllW.nil⟩
  | d :: ds, _, _, x, r => by
    cases x with
    | cons h1 h2 =>
      cases r with
      | cons r1 r2 =>
        obtain ⟨as, q1⟩ := Dw.reads hok KX d _ _ h1 r1
        obtain ⟨bs, q2⟩ := Dw.readsAll hok KX ds _ _ h2 r2
        exact ⟨_, ReadsAllW.cons q1 q2⟩
end
end
/-! ### the arguments -/
mutual
/-- data that a codec tells -/
def plW : WData → Bool
  | .none => true
  | .bool _ => true
  | .int _ => true
  | .str _ => true
  | .bytes _ => true
  | .list xs => plWs xs
  | .tuple xs => plWs xs
  | _ => false
def plWs : List WData → Bool
  | [] => true
  | x :: r => plW x && plWs r
end
theorem plWs_map {α : Type} {f : α → WData} (h : ∀ a, plW (f a) = true) : ∀ l : List α, plWs (l.map f) = true
  | [] => rfl
  | x :: r => by
    show (plW (f x) && plWs (r.map f)) = true
    rw [h x, plWs_map h r] <;> rfl
theorem pl_enc : ∀ (c : Codec) (a : c.denote), plW (c.enc a) = true
  | .unit, _ => rfl
  | .bool, _ => rfl
  | .int _ _, _ => rfl
  | .nat _ _, _ => rfl
  | .u8, _ => rfl
  | .bytes _ _, _ => rfl
  | .text _ _ _ _, _ => rfl
  | .list _ _ c, a => plWs_map (fun x => pl_enc c x) a
  | .pair c d, a => by
    show (plW (c.enc a.1) && (plW (d.enc a.2) && true)) = true
    rw [pl_enc c a.1, pl_enc d a.2] <;> rfl
  | .triple c d e, a => by
    show (plW (c.enc a.1) && (plW (d.enc a.2.1) && (plW (e.enc a.2.2) && true))) = true
    rw [pl_enc c a.1, pl_enc d a.2.1, pl_enc e a.2.2] <;> rfl
  | .option c, none => rfl
  | .option c, some x => pl_enc c x
theorem pl_encAll : ∀ (cs : List Codec) (a : Codec.denoteAll cs), plWs (Codec.encAll cs a) = true
  | [], _ => rfl
  | c :: cs, a => by
    show (plW (c.enc a.1) && plWs (Codec.encAll cs a.2)) = true
    rw [pl_enc c a.1, pl_encAll cs a.2] <;> rfl
theorem weight_mem : ∀ {xs : List WData} {d : WData}, d ∈ xs → d.weight ≤ WData.weightAll xs
  | [], d, h => absurd h (by simp)
  | x :: r, d, h => by
    show d.weight ≤ x.weight + 1 + WData.weightAll r
    rcases List.mem_cons.mp h with e | m
    · rw [e]
      omega
    · have z := weight_mem m
      omega
def toV : Value → V
  | .none => .non
  | .bool b => .bl b
  | .int i _ => .int i
  | .str x _ => .str x
  | .bytes b _ => .byt b
  | .ref a => .ref a
  | _ => .non
/-- a value of the arguments, its objects among A -/
def OkU (A : List Addr) : Value → Prop
  | .none => True
  | .bool _ => True
  | .int _ _ => True
  | .str _ _ => True
  | .bytes _ _ => True
  | .ref a => a ∈ A
  | _ => False
theorem OkU.mono {A B : List Addr} (h : ∀ a ∈ A, a ∈ B) : ∀ {u : Value}, OkU A u → OkU B u := fun {u} x => by
  cases u with
  | ref a => exact h a x
  | none => trivial
  | bool b => trivial
  | int i t => trivial
  | str s t => trivial
  | bytes b t => trivial
  | _ => exact False.elim x
theorem relV_toV {A : List Addr} {u : Value} (x : OkU A u) : RelV (toV u) u := by
  cases u with
  | ref a => rfl
  | none => rfl
  | bool b => rfl
  | int i t => exact ⟨t, rfl⟩
  | str s t => exact ⟨t, rfl⟩
  | bytes b t => exact ⟨t, rfl⟩
  | _ => exact False.elim x
theorem vals_toV {A : List Addr} : ∀ {vs : List Value}, (∀ u ∈ vs, OkU A u) → Vals (vs.map toV) vs
  | [], _ => .nil
  | u :: r, h => .cons (relV_toV (h u (List.mem_cons_self ..))) (vals_toV fun x hx => h x (List.mem_cons_of_mem _ hx))
/-- an object of the arguments -/
def ArgOb (h : Heap) (A : List Addr) (a : Addr) : Prop := ∃ vs : List Value, vs.length ≤ sizeLine ∧ (∀ u ∈ vs, OkU A u) ∧
  (h.get? a = some { cls := .type "list", data := .seq vs.toArray } ∨ h.get? a = some { cls := .type "tuple", data := .seq vs.toArray })
theorem ArgOb.mono {h : Heap} {A B : List Addr} {a : Addr} (k : ∀ a ∈ A, a ∈ B) (x : ArgOb h A a) : ArgOb h B a := by
  obtain ⟨vs, h1, h2, h3⟩ := x
  exact ⟨vs, h1, fun u hu => (h2 u hu).mono k, h3⟩
theorem wellAll_len {P : Params} {h : Heap} : ∀ {vs : List Value} {ds : List WData}, WellAll P h vs ds → vs.length = ds.length
  | _, _, .nil => rfl
  | _, _, .cons _ b => by
    show _ + 1 = _ + 1
    rw [wellAll_len b]
theorem well_list {P : Params} {h : Heap} {v : Value} {ds : List WData} (x : Well P h v (.list ds)) : ∃ (a : Addr) (vs : List Value), v = .ref a ∧ h.get? a = some { cls := .type "list", data := .seq vs.toArray } ∧ WellAll P h vs ds := by
  cases x with
  | list ho hall => exact ⟨_, _, rfl, ho, hall⟩
theorem well_tuple {P : Params} {h : Heap} {v : Value} {ds : List WData} (x : Well P h v (.tuple ds)) : ∃ (a : Addr) (vs : List Value), v = .ref a ∧ h.get? a = some { cls := .type "tuple", data := .seq vs.toArray } ∧ WellAll P h vs ds := by
  cases x with
  | tuple ho hall => exact ⟨_, _, rfl, ho, hall⟩
theorem well_cons {P : Params} {h : Heap} {us : List Value} {d : WData} {ds : List WData} (x : WellAll P h us (d :: ds)) : ∃ (v : Value) (vs : List Value), us = v :: vs ∧ Well P h v d ∧ WellAll P h vs ds := by
  cases x with
  | cons a b => exact ⟨_, _, rfl, a, b⟩
theorem line_of {n : Nat} (h : n ≤ 1048576) : n ≤ sizeLine := Nat.le_trans h (by decide)
section
variable {P : Params} {h : Heap}
mutual
theorem area_one : ∀ (d : WData) (v : Value), Well P h v d → plW d = true → d.weight ≤ 1048576 → ∃ A : List Addr, OkU A v ∧ ∀ a ∈ A, ArgOb h A a
  | .none, _, x, _, _ => by
    cases x
    exact ⟨[], trivial, fun a m => absurd m (by simp)⟩
  | .bool b, _, x, _, _ => by
    cases x
    exact ⟨[], trivial, fun a m => absurd m (by simp)⟩
  | .int i, _, x, _, _ => by
    cases x
    exact ⟨[], trivial, fun a m => absurd m (by simp)⟩
  | .str s, _, x, _, _ => by
    cases x
    exact ⟨[], trivial, fun a m => absurd m (by simp)⟩
  | .bytes b, _, x, _, _ => by
    cases x
    exact ⟨[], trivial, fun a m => absurd m (by simp)⟩
  | .list ds, _, x, p, z => by
    obtain ⟨a, vs, rfl, ho, hall⟩ := well_list x
    have z2 : WData.weightAll ds ≤ 1048576 := z
    obtain ⟨A, h1, h2⟩ := area_all ds _ hall p fun d hd => Nat.le_trans (weight_mem hd) z2
    have k : ∀ b ∈ A, b ∈ a :: A := fun b hb => List.mem_cons_of_mem _ hb
    refine ⟨a :: A, List.mem_cons_self .., fun b hb => ?_⟩
    rcases List.mem_cons.mp hb with e | m
    · rw [e]
      exact ⟨vs, line_of (by rw [wellAll_len hall]; exact Nat.le_trans (PySem.W.length_le_weightAllW ds) z2), fun u hu => (h1 u hu).mono k, .inl ho⟩
    · exact (h2 b m).mono k
  | .tuple ds, _, x, p, z => by
    obtain ⟨a, vs, rfl, ho, hall⟩ := well_tuple x
    have z2 : WData.weightAll ds ≤ 1048576 := z
    obtain ⟨A, h1, h2⟩ := area_all ds _ hall p fun d hd => Nat.le_trans (weight_mem hd) z2
    have k : ∀ b ∈ A, b ∈ a :: A := fun b hb => List.mem_cons_of_mem _ hb
    refine ⟨a :: A, List.mem_cons_self .., fun b hb => ?_⟩
    rcases List.mem_cons.mp hb with e | m
    · rw [e]
      exact ⟨vs, line_of (by rw [wellAll_len hall]; exact Nat.le_trans (PySem.W.length_le_weightAllW ds) z2), fun u hu => (h1 u hu).mono k, .inr ho⟩
    · exact (h2 b m).mono k
  | .float _, _, _, p, _ => Bool.noConfusion (show false = true from p)
  | .dict _, _, _, p, _ => Bool.noConfusion (show false = true from p)
  | .bytearray _, _, _, p, _ => Bool.noConfusion (show false = true from p)
  | .set _, _, _, p, _ => Bool.noConfusion (show false = true from p)
  | .frozenset _, _, _, p, _ => Bool.noConfusion (show false = true from p)
  | .obj _ _, _, _, p, _ => Bool.noConfusion (show false = true from p)
theorem area_all : ∀ (ds : List WData) (vs : List Value), WellAll P h vs ds → plWs ds = true → (∀ d ∈ ds, d.weight ≤ 1048576) → ∃ A : List Addr, (∀ u ∈ vs, OkU A u) ∧ ∀ a ∈ A, ArgOb h A a
  | [], _, x, _, _ => by
    cases x
    exact ⟨[], fun u m => absurd m (by simp), fun a m => absurd m (by simp)⟩
  | d :: ds, _, x, p, z => by
    obtain ⟨v, vs, rfl, x1, x2⟩ := well_cons x
    have q : plW d = true ∧ plWs ds = true := Bool.and_eq_true_iff.mp p
    obtain ⟨A, a1, a2⟩ := area_one d v x1 q.1 (z d (List.mem_cons_self ..))
    obtain ⟨B, b1, b2⟩ := area_all ds vs x2 q.2 fun e he => z e (List.mem_cons_of_mem _ he)
    have kA : ∀ b ∈ A, b ∈ A ++ B := fun b hb => List.mem_append.mpr (.inl hb)
    have kB : ∀ b ∈ B, b ∈ A ++ B := fun b hb => List.mem_append.mpr (.inr hb)
    refine ⟨A ++ B, fun u hu => ?_, fun b hb => ?_⟩
    · rcases List.mem_cons.mp hu with e | m
      · rw [e]
        exact a1.mono kA
      · exact (b1 u m).mono kB
    · rcases List.mem_append.mp hb with m | m
      · exact (a2 b m).mono kA
      · exact (b2 b m).mono kB
end
end
/-- what is tracked of an argument's object -/
def hoOf (o : Obj) : Option HO := match o.data with
  | .seq vs _ => if (o.cls == Value.type "list") = true then some (.frz o (.lst (vs.toList.map toV))) else some (.frz o (.tup (vs.toList.map toV)))
  | _ => none
def argH (K : PySem.W.Frag) (h : Heap) (A : List Addr) : Hp := fun b => if b ∈ A then (if (K.lookup b).isNone = true then (h.get? b).bind hoOf else none) else none
/-- nothing is tracked but what is known to the object -/
def OnlyF (H : Hp) : Prop := ∀ b, H b = none ∨ ∃ o u, H b = some (.frz o u)
theorem hoOf_lst (vs : List Value) : hoOf { cls := .type "list", data := .seq vs.toArray } = some (.frz { cls := .type "list", data := .seq vs.toArray } (.lst (vs.map toV))) := by
  show (if (Value.type "list" == Value.type "list") = true then some (HO.frz { cls := .type "list", data := .seq vs.toArray } (.lst (vs.toArray.toList.map toV))) else some (HO.frz { cls := .type "list", data := .seq vs.toArray } (.tup (vs.toArray.toList.map toV)))) = _
  rw [if_pos (beq_self_eq_true _)]
theorem hoOf_tup (vs : List Value) : hoOf { cls := .type "tuple", data := .seq vs.toArray } = some (.frz { cls := .type "tuple", data := .seq vs.toArray } (.tup (vs.map toV))) := by
  show (if (Value.type "tuple" == Value.type "list") = true then some (HO.frz { cls := .type "tuple", data := .seq vs.toArray } (.lst (vs.toArray.toList.map toV))) else some (HO.frz { cls := .type "tuple", data := .seq vs.toArray } (.tup (vs.toArray.toList.map toV)))) = _
  rw [if_neg (by decide)]
section
variable {P : Program} {w : World} {K : PySem.W.Frag} {h : Heap} {A : List Addr}
theorem argH_at {b : Addr} {o : Obj} (hb : b ∈ A) (hk : K.lookup b = none) (e : h.get? b = some o) : argH K h A b = hoOf o := by
  unfold argH
  rw [if_pos hb, hk, if_pos (show (none : Option Obj).isNone = true from rfl), e] <;> rfl
theorem of_argH {b : Addr} {u : HO} (q : argH K h A b = some u) : b ∈ A ∧ K.lookup b = none := by
  unfold argH at q
  by_cases hb : b ∈ A
  · rw [if_pos hb] at q
    cases hk : K.lookup b with
    | none => exact ⟨hb, rfl⟩
    | some o =>
      rw [hk, if_neg (by simp)] at q
      cases q
  · rw [if_neg hb] at q
    cases q
/-- what stands tracked -/
theorem argH_is (ar : ∀ a ∈ A, ArgOb h A a) {b : Addr} {u : HO} (q : argH K h A b = some u) : K.lookup b = none ∧ ∃ vs : List Value, vs.length ≤ sizeLine ∧ (∀ u ∈ vs, OkU A u) ∧
    ((h.get? b = some { cls := .type "list", data := .seq vs.toArray } ∧ u = .frz { cls := .type "list", data := .seq vs.toArray } (.lst (vs.map toV))) ∨
     (h.get? b = some { cls := .type "tuple", data := .seq vs.toArray } ∧ u = .frz { cls := .type "tuple", data := .seq vs.toArray } (.tup (vs.map toV)))) := by
  obtain ⟨hb, hk⟩ := of_argH q
  obtain ⟨vs, h1, h2, h3⟩ := ar b hb
  refine ⟨hk, vs, h1, h2, ?_⟩
  rcases h3 with e | e
  · rw [argH_at hb hk e, hoOf_lst] at q
    exact .inl ⟨e, (Option.some.inj q).symm⟩
  · rw [argH_at hb hk e, hoOf_tup] at q
    exact .inr ⟨e, (Option.some.inj q).symm⟩
theorem argH_only (ar : ∀ a ∈ A, ArgOb h A a) : OnlyF (argH K h A) := fun b => by
  cases q : argH K h A b with
  | none => exact .inl rfl
  | some u =>
    obtain ⟨_, vs, _, _, ⟨_, e⟩ | ⟨_, e⟩⟩ := argH_is ar q
    · exact .inr ⟨_, _, by rw [e]⟩
    · exact .inr ⟨_, _, by rw [e]⟩
theorem argH_ok (ar : ∀ a ∈ A, ArgOb h A a) : HOk P w (argH K h A) h := fun b u q => by
  obtain ⟨_, vs, h1, h2, ⟨e, rfl⟩ | ⟨e, rfl⟩⟩ := argH_is ar q
  · exact ⟨e, by rw [List.length_map]; exact h1, vs, _, vals_toV h2, e⟩
  · exact ⟨e, by rw [List.length_map]; exact h1, vs, vals_toV h2, _, e, rfl, _, rfl⟩
theorem seq_inj {c c' : Value} {vs us : List Value} (e : (some { cls := c, data := .seq vs.toArray } : Option Obj) = some { cls := c', data := .seq us.toArray }) : c = c' ∧ vs = us := by
  have e1 := Option.some.inj e
  have e2 : c = c' := congrArg Obj.cls e1
  have e3 : Data.seq vs.toArray = Data.seq us.toArray := congrArg Obj.data e1
  injection e3 with e4
  refine ⟨e2, ?_⟩
  have e5 := congrArg Array.toList e4
  simpa using e5
/-- a list argument -/
theorem argL (KX : K.In h) (ar : ∀ a ∈ A, ArgOb h A a) {a : Addr} {vs : List Value} (ha : a ∈ A) (e : h.get? a = some { cls := .type "list", data := .seq vs.toArray }) : (∀ u ∈ vs, OkU A u) ∧ SqL K (argH K h A) a (vs.map toV) := by
  obtain ⟨us, h1, h2, h3⟩ := ar a ha
  have hu : us = vs := by
    rcases h3 with q | q
    · rw [e] at q
      exact (seq_inj q).2.symm
    · rw [e] at q
      exact absurd (Value.type.inj (seq_inj q).1) (by decide)
  subst hu
  refine ⟨h2, ?_⟩
  cases hk : K.lookup a with
  | none => exact .inl (.inr ⟨_, by rw [argH_at ha hk e, hoOf_lst]⟩)
  | some o =>
    have e2 := KX a o hk
    rw [e] at e2
    obtain rfl := Option.some.inj e2
    exact .inr ⟨_, us.toArray, _, hk, rfl, rfl, rfl, by rw [List.size_toArray]; exact h1, by simpa using vals_toV h2⟩
theorem argT (KX : K.In h) (ar : ∀ a ∈ A, ArgOb h A a) {a : Addr} {vs : List Value} (ha : a ∈ A) (e : h.get? a = some { cls := .type "tuple", data := .seq vs.toArray }) : (∀ u ∈ vs, OkU A u) ∧ SqT K (argH K h A) a (vs.map toV) := by
  obtain ⟨us, h1, h2, h3⟩ := ar a ha
  have hu : us = vs := by
    rcases h3 with q | q
    · rw [e] at q
      exact absurd (Value.type.inj (seq_inj q).1) (by decide)
    · rw [e] at q
      exact (seq_inj q).2.symm
  subst hu
  refine ⟨h2, ?_⟩
  cases hk : K.lookup a with
  | none => exact .inl (.inr ⟨_, by rw [argH_at ha hk e, hoOf_tup]⟩)
  | some o =>
    have e2 := KX a o hk
    rw [e] at e2
    obtain rfl := Option.some.inj e2
    exact .inr ⟨_, us.toArray, _, hk, rfl, rfl, by rw [List.size_toArray]; exact h1, by simpa using vals_toV h2⟩
mutual
theorem dw_one {Pm : Params} (KX : K.In h) (ar : ∀ a ∈ A, ArgOb h A a) : ∀ (d : WData) (v : Value), Well Pm h v d → plW d = true → OkU A v → Dw K (argH K h A) (toV v) d
  | .none, _, x, _, _ => by
    cases x
    exact .non
  | .bool b, _, x, _, _ => by
    cases x
    exact .bl b
  | .int i, _, x, _, _ => by
    cases x
    exact .int i
  | .str s, _, x, _, _ => by
    cases x
    exact .str s
  | .bytes b, _, x, _, _ => by
    cases x
    have z := Dw.byt (K := K) (H := argH K h A) b.toArray
    exact z
  | .list ds, _, x, p, hu => by
    obtain ⟨a, vs, rfl, ho, hall⟩ := well_list x
    obtain ⟨h2, hs⟩ := argL KX ar hu ho
    exact .lst hs (dw_all KX ar ds _ hall p h2)
  | .tuple ds, _, x, p, hu => by
    obtain ⟨a, vs, rfl, ho, hall⟩ := well_tuple x
    obtain ⟨h2, hs⟩ := argT KX ar hu ho
    exact .tup hs (dw_all KX ar ds _ hall p h2)
  | .float _, _, _, p, _ => Bool.noConfusion (show false = true from p)
  | .dict _, _, _, p, _ => Bool.noConfusion (show false = true from p)
  | .bytearray _, _, _, p, _ => Bool.noConfusion (show false = true from p)
  | .set _, _, _, p, _ => Bool.noConfusion (show false = true from p)
  | .frozenset _, _, _, p, _ => Bool.noConfusion (show false = true from p)
  | .obj _ _, _, _, p, _ => Bool.noConfusion (show false = true from p)
theorem dw_all {Pm : Params} (KX : K.In h) (ar : ∀ a ∈ A, ArgOb h A a) : ∀ (ds : List WData) (vs : List Value), WellAll Pm h vs ds → plWs ds = true → (∀ u ∈ vs, OkU A u) → DwAll K (argH K h A) (vs.map toV) ds
  | [], _, x, _, _ => by
    cases x
    exact .nil
  | d :: ds, _, x, p, hu => by
    obtain ⟨v, vs, rfl, x1, x2⟩ := well_cons x
    have q : plW d = true ∧ plWs ds = true := Bool.and_eq_true_iff.mp p
    exact .cons (dw_one KX ar d v x1 q.1 (hu _ (List.mem_cons_self ..))) (dw_all KX ar ds vs x2 q.2 fun u m => hu u (List.mem_cons_of_mem _ m))
end
end
/-! ### the call -/
theorem spec_call {P : Program} {w : World} {K : PySem.W.Frag} {mg mb : Str → Option Value} {CX : CXT} {k : Nat} {fa : Addr} {fd : FuncData} {ps : List Str} {sp : Sp} {s₁ : Shared} {vals : List Value} {ds : List WData} {R : PySem.W.WRecords} {cl : Str → Option Addr} {d0 : WData}
    (KX : K.In s₁.heap) (hns : s₁.heap.Ns mainGlobals mg) (hb : s₁.heap.Ns builtinsNs mb) (hbb : ∀ x : Str, x ≠ "__name__" → mb x = bootBuiltins x) (hlim : s₁.heap.NoLimit) (hg : s₁.gens = #[])
    (hwl : WellAll w.params s₁.heap vals ds) (hpl : plWs ds = true) (hwt : ∀ d ∈ ds, d.weight ≤ 1048576) (hr : Room k callerA)
    (F : ∀ base : Heap, K.In base → base.Ns mainGlobals mg → FnOk P w K mg base CX k fa fd ps sp) (hbind : ∀ (s : Shared) (us : List Value), us.length = ps.length → BindsTo s fd ⟨us, []⟩ (ps.zip us)) (hlen : ds.length = ps.length)
    (hsp : ∀ (H : Hp) (xs : List V), OnlyF H → DwAll K H xs ds → sp xs H (fun v H' => Dw K H' v d0) fun _ _ _ => False)
    (hCX : ∀ H e s', CX [] H s₁ (fun _ _ _ => False) e s' → False) :
    codeAny (model P w) callerA (.call (.ref fa) ⟨vals, []⟩) (fun r s' => ∃ u as, r = .ok (.ret u) ∧ ReadsW R cl s'.heap u d0 as ∧ OldK s₁.heap s'.heap ∧ s'.os = s₁.os ∧ AllBare s'.gens) s₁ := by
  obtain ⟨A, ho, ar⟩ := area_all ds vals hwl hpl hwt
  have hO : OnlyF (argH K s₁.heap A) := argH_only ar
  have hok : HOk P w (argH K s₁.heap A) s₁.heap := argH_ok ar
  have hS := dw_all KX ar ds vals hwl hpl ho
  have hV := vals_toV ho
  have hK : ∀ b u, argH K s₁.heap A b = some u → K.lookup b = none := fun b u q => (argH_is ar q).1
  have noA : ∀ {b : Addr} {o : Obj} {es : Array DictEntry} {ep : Nat}, s₁.heap.get? b = some o → o.data = .dict es ep → argH K s₁.heap A b = none := fun {b o es ep} e d => by
    cases q : argH K s₁.heap A b with
    | none => rfl
    | some u =>
      obtain ⟨_, vs, _, _, ⟨e2, _⟩ | ⟨e2, _⟩⟩ := argH_is ar q
      · rw [e2] at e
        cases e
        have d' : Data.seq vs.toArray _ = Data.dict es ep := d
        cases d'
      · rw [e2] at e
        cases e
        have d' : Data.seq vs.toArray _ = Data.dict es ep := d
        cases d'
  generalize argH K s₁.heap A = H at hO hok hS hK noA
  have base_of : ∀ {b : Addr} {o : Obj}, s₁.heap.get? b = some o → H b = none → (hidT s₁.heap H).get? b = some o := fun e n => hidT_get e n
  have nsK : ∀ {b : Addr} {m : Str → Option Value}, s₁.heap.Ns b m → (hidT s₁.heap H).Ns b m := fun {b m} ⟨o, es, ep, e, d, r⟩ => ⟨o, es, ep, base_of e (noA e d), d, r⟩
  have nK : ∀ b o, K.lookup b = some o → H b = none := fun b o e => by
    cases q : H b with
    | none => rfl
    | some u =>
      rw [hK b u q] at e
      cases e
  have hKb : K.In (hidT s₁.heap H) := fun b o e => base_of (KX b o e) (nK b o e)
  have hM : Mod K mg (hidT s₁.heap H) := ⟨hKb, nsK hns, ⟨mb, nsK hb, hbb⟩, let ⟨mc, h1, h2⟩ := hlim; ⟨mc, nsK h1, h2⟩⟩
  have e0 : Env0 P w K mg (hidT s₁.heap H) callerA [] s₁ H := ⟨rfl, hM, fun b o e => of_hidT e, Nat.le_of_eq (hidT_size _ _), trivial, fun b hb => absurd (show b ∈ ([] : List Addr) from hb) (by simp), hok, .of_eq hg⟩
  have hl : vals.length = ps.length := by rw [wellAll_len hwl]; exact hlen
  refine codeAny_mono ((F _ hKb (nsK hns)).run callerA [] s₁ H ⟨vals, []⟩ vals (vals.map toV) _ _ hr e0 (hbind s₁ vals hl) hV (hsp H _ hO hS)) fun r s' x => ?_
  cases r with
  | error e => exact (hCX H e s' x).elim
  | ok fl =>
    cases fl with
    | next => exact False.elim x
    | brk => exact False.elim x
    | cont => exact False.elim x
    | ret u =>
      obtain ⟨v, H', os, bare, un, hok', r', q⟩ := x
      have kept : ∀ b o, s₁.heap.get? b = some o → s'.heap.get? b = some o := fun b o e => by
        cases q2 : H b with
        | none => exact un.keep b o e q2 (by intro z; exact absurd (show b ∈ ([] : List Addr) from z) (by simp)) (by simp)
        | some u2 =>
          rcases hO b with z | ⟨ob, u3, z⟩
          · rw [q2] at z
            cases z
          · have z2 := un.frzs b ob _ z
            obtain ⟨e1, _⟩ := hok b _ z
            obtain ⟨e2, _⟩ := hok' b _ z2
            rw [e] at e1
            cases e1
            exact e2
      have KX' : K.In s'.heap := fun b o e => kept b o (KX b o e)
      obtain ⟨as, hrd⟩ := Dw.reads (R := R) (cl := cl) hok' KX' d0 v u q r'
      exact ⟨u, as, rfl, hrd, OldK.of_keep kept, os, bare⟩
/-! ### the row -/
theorem layable_weight {ds : List WData} (h : WData.layableAll ds = true) : ∀ d ∈ ds, d.weight ≤ 1048576 := fun d hd =>
  (PySem.W.layableW_iff.mp (List.all_eq_true.mp h d hd)).2.2
theorem encAll_len : ∀ (cs : List Codec) (a : Codec.denoteAll cs), (Codec.encAll cs a).length = cs.length
  | [], _ => rfl
  | c :: cs, a => by
    show (Codec.encAll cs a.2).length + 1 = cs.length + 1
    rw [encAll_len cs a.2]
/-- the goal that k_headS leaves (case hc), from the promise of the row's def: whatever the arguments that the codecs let and the row asks for, the def gives what stands for enc (f ..) -/
theorem walk_spec {r : OpenSpec} {k : Nat} {q : Program} {loose : List Str} {XP : (Str → Option Value) → Heap → Prop} {YP : World → Heap → Prop} {d : DefRec} {K : Params → PySem.W.Frag} {CX : World → CXT} {ps : List Str} {sp : World → Sp}
    (hwell : r.wellSaid = true) (hdf : d.params.defaults = []) (hlen : r.args.length = ps.length) (hr : Room k callerA)
    (hY : ∀ (w : World) (h : Heap), YP w h → (K w.params).In h)
    (F : ∀ (w : World) (mg : Str → Option Value) (fa : Addr) (h : Heap), YP w h → (K w.params).In h → h.Ns mainGlobals mg → mg d.name = some (.ref fa) →
      ∃ fd : FuncData, (∀ (s : Shared) (us : List Value), us.length = ps.length → BindsTo s fd ⟨us, []⟩ (ps.zip us)) ∧
        ∀ base : Heap, (K w.params).In base → base.Ns mainGlobals mg → FnOk r.prog w (K w.params) mg base (CX w) k fa fd ps (sp w))
    (hsp : ∀ (w : World) (H : Hp) (xs : List V) (a : Codec.denoteAll r.args), OnlyF H → Codec.withinAll r.args a = true → Codec.app r.args r.asked a = true → DwAll (K w.params) H xs (Codec.encAll r.args a) →
      sp w xs H (fun v H' => Dw (K w.params) H' v (r.ret.enc (Codec.app r.args r.f a))) fun _ _ _ => False)
    (hCX : ∀ (w : World) (H : Hp) (s : Shared) (e : Value) (s' : Shared), CX w [] H s (fun _ _ _ => False) e s' → False) :
    PySem.W.WalkOS q loose XP YP r d [] (fun f vs => PySem.call f vs) := by
  intro w s_0 s₁ mg mb G Y fa o pm cd doc dV kV ho hd hcd hD hmg hg args vals as hpre hlay hrd hwl hlo
  obtain ⟨a, e1, e2⟩ := PySem.W.os_pre_some hpre
  obtain ⟨e3, hwi⟩ := Codec.encAll_of_decAll r.args args a e1
  subst e3
  have KX := hY w _ Y
  obtain ⟨fd, hb, hF⟩ := F w mg fa _ Y KX G.T.g hmg
  refine PySem.W.enter_call (codeAny_mono (spec_call (R := []) (cl := classAt s_0.heap) (d0 := r.ret.enc (Codec.app r.args r.f a)) KX G.T.g G.T.b G.T.builtins G.T.nolimit hg hwl (pl_encAll _ _) (layable_weight hlay) hr hF hb (by rw [encAll_len]; exact hlen)
    (fun H xs hO hS => hsp w H xs a hO hwi e2 hS) fun H e s' => hCX w H s₁ e s') fun r' s' hq => ?_)
  obtain ⟨u, as', rfl, h1, h2, h3, h4⟩ := hq
  exact ⟨.inl ⟨u, _, as', rfl, fun _ => rfl, h1, (OpenSpec.post_iff hwell hwi _ _).mpr rfl, fun z => Bool.noConfusion (show false = true from z)⟩, h2, h3, h4⟩
/-- the same where the promise hangs on the written part alone -/
theorem walk_specK {r : OpenSpec} {k : Nat} {q : Program} {loose : List Str} {XP : (Str → Option Value) → Heap → Prop} {YP : World → Heap → Prop} {d : DefRec} {K : Params → PySem.W.Frag} {CX : CXT} {ps : List Str} {sp : PySem.W.Frag → Sp}
    (hwell : r.wellSaid = true) (hdf : d.params.defaults = []) (hlen : r.args.length = ps.length) (hr : Room k callerA)
    (hY : ∀ (w : World) (h : Heap), YP w h → (K w.params).In h)
    (F : ∀ (w : World) (mg : Str → Option Value) (fa : Addr) (h : Heap), YP w h → (K w.params).In h → h.Ns mainGlobals mg → mg d.name = some (.ref fa) →
      ∃ fd : FuncData, (∀ (s : Shared) (us : List Value), us.length = ps.length → BindsTo s fd ⟨us, []⟩ (ps.zip us)) ∧
        ∀ base : Heap, (K w.params).In base → base.Ns mainGlobals mg → FnOk r.prog w (K w.params) mg base CX k fa fd ps (sp (K w.params)))
    (hsp : ∀ (K : PySem.W.Frag) (H : Hp) (xs : List V) (a : Codec.denoteAll r.args), OnlyF H → Codec.withinAll r.args a = true → Codec.app r.args r.asked a = true → DwAll K H xs (Codec.encAll r.args a) →
      sp K xs H (fun v H' => Dw K H' v (r.ret.enc (Codec.app r.args r.f a))) fun _ _ _ => False)
    (hCX : ∀ (H : Hp) (s : Shared) (e : Value) (s' : Shared), CX [] H s (fun _ _ _ => False) e s' → False) :
    PySem.W.WalkOS q loose XP YP r d [] (fun f vs => PySem.call f vs) :=
  walk_spec (K := K) (CX := fun _ => CX) (sp := fun w => sp (K w.params)) hwell hdf hlen hr hY F (fun w H xs a h1 h2 h3 h4 => hsp (K w.params) H xs a h1 h2 h3 h4) fun _ H s e s' => hCX H s e s'
end L2
-- rests on (row put in by the clerk, for the bench that shows a file only what it spells): KE.SpHead KE.OsShapes
end
set_option Elab.async false
set_option linter.all false
set_option maxRecDepth 100000
/-! Three rules besides the layer's: a call of what an expression gives; an item of a dict of the module's top; list.remove. -/
namespace Px
open PySem PySem.Spec PyProof.Rows L2

section
variable {X : Cx} {func e : Expr} {es : List Expr} {pos : Pos} {tf : TE} {t : TA}
/-- what a call of a value asks: the value is a def of the module, with its promise -/
def tCallV (X : Cx) (tf : TE) (t : TA) : TE := fun σ H Q => tf σ H fun x H1 => ∃ (f : Addr) (fd : FuncData) (ps : List Str) (k : Nat) (sp : Sp), x = .ref f ∧ PySem.W.keepIn X.K (.ref f) = true ∧ Room k X.A ∧
  FnOk X.prog X.w X.K X.mg X.base CX0 k f fd ps sp ∧ Binds X.K fd ps [] ∧ t σ H1 fun vs H2 => sp vs H2 Q E0
theorem pe_callV (hf : PE X func tf) (ha : PA X (e :: es) t)
    (arm : eval (.Call func (e :: es) [] pos) X.env = (do callWith pos (← eval func X.env) [] (backTo pos (starEach (e :: es) X.env)) (backToKw pos (keywordEach [] X.env))) := by rfl)
    (he : starEach (e :: es) X.env = (false, eval e X.env) :: starEach es X.env := by rfl) (hpl : (backTo pos (starEach es X.env)).any (·.1) = false := by rfl) :
    PE X (.Call func (e :: es) [] pos) (tCallV X tf t) := by
  intro pins s σ H Q I h
  rw [arm]
  refine wpAny_bind (thn (hf pins s σ H _ I h) fun u s1 ⟨x, H1, I1, rx, f, fd, ps, k, sp, ex, hk, hr, F, hb, q⟩ => ?_)
  subst ex
  obtain rfl : u = Value.ref f := rx
  refine PySem.W.callWith_K (h₀ := X.base) I1.ok.mod.kin hk (thn (ha pos pins s1 σ H1 _ I1 q) fun us s2 ⟨vs, H2, I2, r, q2⟩ => ⟨I2.kIn, ?_⟩) he hpl
  exact run_fn (ds := []) (dvs := []) (E := E0) F hr hb .nil pass0 I2 r (by rw [List.append_nil]; exact q2)
end

/-- the dict at d, of the module's top, holds at the whole number z the value u -/
def KAt (K : PySem.W.Frag) (d : Addr) (z : Int) (u : Value) : Prop :=
  ∃ es n, K.lookup d = some ⟨.type "dict", none, .dict es n, #[]⟩ ∧ (∀ e ∈ es, ∃ (k : Int) (t : Tok), e.key = .int k t ∧ e.hash = hashInt k) ∧ findBy Value.isInt es z = some u
section
variable {X : Cx} {o i : Expr} {pos : Pos} {td ty : TE}
theorem kAt_map {P : Program} {w : World} {K : PySem.W.Frag} {h : Heap} {d : Addr} {z : Int} {u : Value} (KX : K.In h) (g : KAt K d z u) : ∃ f : Int → Option Value, h.MapOf (intKind P w) d f ∧ f z = some u := by
  obtain ⟨es, n, lk, hk, hf⟩ := g
  refine ⟨findBy Value.isInt es, ⟨_, es, n, KX _ _ lk, ⟨rfl, rfl, rfl⟩, rfl, fun e he => ?_, fun _ => rfl⟩, hf⟩
  obtain ⟨k, t, e1, e2⟩ := hk e he
  exact ⟨k, by rw [e1]; exact intKind_is P w k t, e2⟩
def tKGet (K : PySem.W.Frag) (td ty : TE) : TE := fun σ H Q => td σ H fun x H1 => ty σ H1 fun y H2 => ∃ d z u v, x = .ref d ∧ y = .int z ∧ KAt K d z u ∧ RelV v u ∧ Q v H2
theorem pe_kget (ho : PE X o td) (hi : PE X i ty) (hs : NoSl i) : PE X (.Subscript o i pos) (tKGet X.K td ty) := by
  intro pins s σ H Q I h
  refine subD_of PySem.F.slot_dict_getitem.lookup hs (thn (ho pins s σ H _ I h) fun u s1 ⟨x, H1, I1, rx, q1⟩ => thn (hi pins s1 σ H1 _ I1 q1) fun iv s2 ⟨y, H2, I2, ry, d, z, uu, v, ex, ey, g, rv, q2⟩ => ?_)
  subst ex ey
  obtain rfl : u = Value.ref d := rx
  obtain ⟨t, rfl⟩ := ry
  obtain ⟨f, hm, hf⟩ := kAt_map (P := X.prog) (w := X.w) I2.kIn g
  exact ⟨hm.typeIs, wpAny_getItem_of (intKind_is _ _ z t) hm hf ⟨v, H2, I2.tok _, rv, q2⟩⟩
end

section
variable {X : Cx}
theorem vals_int_mem : ∀ {ns : List Int} {us : List Value}, Vals (ns.map V.int) us → ∀ u ∈ us, ∃ k t, u = .int k t
  | [], _, .nil => fun u h => by cases h
  | n :: r, _, .cons ⟨t, e⟩ h => fun u hu => by
    rcases List.mem_cons.mp hu with q | q
    · exact ⟨n, t, q.trans e⟩
    · exact vals_int_mem h u q
theorem erase_map {α β : Type} (g : α → β) : ∀ (l : List α) (i : Nat), (l.map g).eraseIdx i = (l.eraseIdx i).map g
  | [], _ => rfl
  | _ :: _, 0 => rfl
  | a :: l, i + 1 => congrArg (List.cons (g a)) (erase_map g l i)
def isI (z : Int) : Value → Bool
  | .int k _ => k == z
  | _ => false
/-- xs.remove(z), whole numbers: the first that is z goes -/
def rRemove : V → List V → Hp → VK → Prop := fun x vs H Q => ∃ (l : Addr) (ns : List Int) (z : Int) (j : Nat), x = .ref l ∧ vs = [.int z] ∧ H l = some (.lst (ns.map V.int)) ∧ ns[j]? = some z ∧ (∀ m, m < j → ns[m]? ≠ some z) ∧ Q .non (upd H l (.lst ((ns.eraseIdx j).map V.int)))
theorem mt_remove : MtM X "list.remove" rRemove := by
  intro pins s σ H x vs v us Q I rx rv h
  obtain ⟨l, ns, zz, j, rfl, rfl, hH, hj, hno, q⟩ := h
  cases rx
  obtain ⟨u, rfl, ru⟩ := rv.one
  obtain ⟨t, rfl⟩ := ru
  obtain ⟨z, its, n, r, hl, e⟩ := I.lstM hH
  rw [List.length_map] at hl z
  have hjn : j < ns.length := (List.getElem?_eq_some_iff.mp hj).1
  have hji : j < its.length := by omega
  have val : ∀ (m : Nat) (hm : m < its.length), ∃ t', its[m] = .int (ns[m]'(by omega)) t' := fun m hm => by
    have hy : (ns.map V.int)[m]? = some (V.int (ns[m]'(by omega))) := by rw [List.getElem?_map, List.getElem?_eq_getElem (show m < ns.length by omega)]; rfl
    obtain ⟨u, hu, t', eu⟩ := r.get hy
    obtain ⟨_, e2⟩ := List.getElem?_eq_some_iff.mp hu
    exact ⟨t', e2.trans eu⟩
  refine call_meets F.slot_list_remove ⟨_, e, rfl⟩ F.entry_list_remove (F.args_list_remove_2 _ _)
    (MeetsSeq.list_remove l its.toArray n (.int zz t) (isI zz) ?_ j (by simpa using hji) ?_ ?_ (by rw [List.size_toArray]; omega)) ⟨e, ?_⟩
  · intro y hy
    obtain ⟨k, t', rfl⟩ := vals_int_mem r y (by simpa using hy)
    exact MeetsSeq.EqGives.int k zz t' t
  · obtain ⟨t', e1⟩ := val j hji
    have e2 : its.toArray[j]'(by simpa using hji) = .int (ns[j]) t' := by simpa using e1
    rw [e2]
    show (ns[j] == zz) = true
    rw [(List.getElem?_eq_some_iff.mp hj).2]
    exact beq_self_eq_true zz
  · intro m hm hmj
    have hmi : m < its.length := by simpa using hm
    obtain ⟨t', e1⟩ := val m hmi
    have e2 : its.toArray[m] = .int (ns[m]'(by omega)) t' := by simpa using e1
    rw [e2]
    show (ns[m]'(by omega) == zz) = false
    refine beq_eq_false_iff_ne.mpr fun q => hno m hmj ?_
    rw [List.getElem?_eq_getElem (show m < ns.length by omega), q]
  · refine ⟨.non, _, I.lset (its' := its.eraseIdx j) hH e ?_ ?_ ?_, rfl, q⟩
    · show its.toArray.eraseIdxIfInBounds j = (its.eraseIdx j).toArray
      rw [List.eraseIdxIfInBounds_toArray]
    · have := r.eraseIdx j
      rw [erase_map] at this
      exact this
    · have := len_erase ns j
      rw [List.length_map]
      omega
end
end Px
set_option Elab.async false
set_option linter.all false
set_option maxRecDepth 100000
/-! The mathematics of the specification, in plain Lean: nothing of the program stands here. -/
namespace Px

/-! ### the prime -/
theorem okP_iff {p : Nat} : Kp301.okP p = true ↔ 3 ≤ p ∧ p < 200 ∧ ∀ d, 2 ≤ d → d < p → p % d ≠ 0 := by
  unfold Kp301.okP Kp297.okP Kp297.prime
  simp only [Bool.and_eq_true, decide_eq_true_eq, List.all_eq_true, List.mem_range, Bool.or_eq_true, beq_iff_eq, bne_iff_ne]
  constructor
  · rintro ⟨h1, h2, h3, h4, h5, h6⟩
    exact ⟨h2, h1, fun d hd hp => (h6 d hp).resolve_left (by omega)⟩
  · rintro ⟨h1, h2, h3⟩
    refine ⟨h2, h1, by omega, ?_, by omega, fun d hp => ?_⟩
    · have := h3 2 (by omega) (by omega)
      omega
    · by_cases h : d < 2
      · exact .inl h
      · exact .inr (h3 d (by omega) hp)
theorem okP_lt {p : Nat} (h : Kp301.okP p = true) : 3 ≤ p ∧ p < 200 := ⟨(okP_iff.mp h).1, (okP_iff.mp h).2.1⟩
theorem coprime_of {p k : Nat} (h : Kp301.okP p = true) (h0 : 0 < k) (hk : k < p) : Nat.Coprime p k := by
  obtain ⟨h3, _, hd⟩ := okP_iff.mp h
  have g1 : Nat.gcd p k ∣ p := Nat.gcd_dvd_left p k
  have g2 : Nat.gcd p k ≤ k := Nat.le_of_dvd h0 (Nat.gcd_dvd_right p k)
  have g3 : 0 < Nat.gcd p k := Nat.gcd_pos_of_pos_right p h0
  show Nat.gcd p k = 1
  by_cases e : Nat.gcd p k = 1
  · exact e
  · exact absurd (Nat.mod_eq_zero_of_dvd g1) (hd _ (by omega) (by omega))
theorem mul_ne {p a k : Nat} (h : Kp301.okP p = true) (ha : a % p ≠ 0) (hk : k % p ≠ 0) : a * k % p ≠ 0 := by
  intro e
  have h3 := (okP_lt h).1
  have hl : k % p < p := Nat.mod_lt _ (by omega)
  have e2 : a * (k % p) % p = 0 := by rw [Nat.mul_mod, Nat.mod_mod, ← Nat.mul_mod]; exact e
  exact ha (Nat.mod_eq_zero_of_dvd ((coprime_of h (by omega) hl).dvd_of_dvd_mul_right (Nat.dvd_of_mod_eq_zero e2)))
theorem mul_inj {p k x y : Nat} (h : Kp301.okP p = true) (hk : k % p ≠ 0) (hx : x < p) (hy : y < p) (e : x * k % p = y * k % p) : x = y := by
  have key : ∀ a b : Nat, a < p → b < a → a * k % p = b * k % p → False := fun a b ha hb e => by
    have h1 : (a - b) * k % p = 0 := by
      rw [Nat.sub_mul]
      have h2 : b * k ≤ a * k := Nat.mul_le_mul_right k (Nat.le_of_lt hb)
      exact Nat.sub_mod_eq_zero_of_mod_eq e
    exact mul_ne h (show (a - b) % p ≠ 0 by rw [Nat.mod_eq_of_lt (by omega)]; omega) hk h1
  by_cases h1 : x < y
  · exact (key y x hy h1 e.symm).elim
  · by_cases h2 : y < x
    · exact (key x y hx h2 e).elim
    · omega

/-! ### squares -/
theorem kind_mod (p a : Nat) : Kp297.kind p (a % p) = Kp297.kind p a := by
  unfold Kp297.kind Kp297.isSq
  simp only [Nat.mod_mod]
theorem kind_one {p z : Nat} : Kp297.kind p z = 1 ↔ z % p ≠ 0 ∧ ∃ n, 1 ≤ n ∧ n ≤ p / 2 ∧ n * n % p = z % p := by
  unfold Kp297.kind Kp297.isSq
  by_cases h : z % p = 0
  · simp [h]
  · simp only [h, if_false]
    constructor
    · intro e
      refine ⟨h, ?_⟩
      by_cases q : ((List.range (p / 2)).any fun i => (i + 1) * (i + 1) % p == z % p) = true
      · obtain ⟨i, hi, e2⟩ := List.any_eq_true.mp q
        exact ⟨i + 1, by omega, by have := List.mem_range.mp hi; omega, eq_of_beq e2⟩
      · rw [if_neg q] at e
        cases e
    · rintro ⟨_, n, h1, h2, e⟩
      rw [if_pos]
      refine List.any_eq_true.mpr ⟨n - 1, List.mem_range.mpr (by omega), ?_⟩
      have e3 : n - 1 + 1 = n := by omega
      rw [e3, e]
      exact beq_self_eq_true _
theorem sq_sym {p n : Nat} (h : n ≤ p) : (p - n) * (p - n) % p = n * n % p := by
  obtain ⟨m, rfl⟩ : ∃ m, p = n + m := ⟨p - n, by omega⟩
  have e : n + m - n = m := by omega
  rw [e]
  have e1 : m * m + n * (n + m) = n * n + m * (n + m) := by
    rw [Nat.mul_add, Nat.mul_add, Nat.mul_comm m n]
    omega
  have e2 : (m * m + n * (n + m)) % (n + m) = m * m % (n + m) := Nat.add_mul_mod_self_right ..
  have e3 : (n * n + m * (n + m)) % (n + m) = n * n % (n + m) := Nat.add_mul_mod_self_right ..
  rw [← e2, e1, e3]
/-- what squares of 1 to p - 1 leave is just what is of the kind 1 -/
theorem sq_iff {p z : Nat} (h : Kp301.okP p = true) (hz : z < p) : (∃ n, 1 ≤ n ∧ n < p ∧ n * n % p = z) ↔ Kp297.kind p z = 1 := by
  have h3 := (okP_lt h).1
  rw [kind_one, Nat.mod_eq_of_lt hz]
  constructor
  · rintro ⟨n, h1, h2, e⟩
    have hn : n % p ≠ 0 := by rw [Nat.mod_eq_of_lt h2]; omega
    refine ⟨fun e0 => mul_ne h hn hn (e.trans e0), ?_⟩
    by_cases q : n ≤ p / 2
    · exact ⟨n, h1, q, e⟩
    · exact ⟨p - n, by omega, by omega, by rw [sq_sym (Nat.le_of_lt h2)]; exact e⟩
  · rintro ⟨_, n, h1, h2, e⟩
    exact ⟨n, h1, by omega, e⟩

/-! ### leads -/
theorem int_mod {p x y : Nat} (hx : x ≤ y + p) : (((y : Int) - (x : Int)) % (p : Int)) = (((y + p - x) % p : Nat) : Int) := by
  have e : ((y + p - x : Nat) : Int) = (y : Int) - x + p := by omega
  rw [Int.natCast_emod, e, Int.add_emod_right]
theorem leads_eq {p x y : Nat} (hp : 0 < p) (hx : x ≤ y + p) : Kp301.leads p x y = (Kp297.kind p (((y : Int) - x) % p).toNat == 1) := by
  unfold Kp301.leads
  rw [int_mod hx, Int.toNat_natCast, kind_mod]
theorem leads_self {p x : Nat} : Kp301.leads p x x = false := by
  unfold Kp301.leads Kp297.kind
  have e : x + p - x = p := by omega
  rw [e, Nat.mod_self, if_pos rfl]
  rfl
theorem who_eq (p : Nat) (l : List Nat) : Kp301.who p l = (List.range p).filter fun z => l.all (Kp301.leads p z) := by
  unfold Kp301.who Kp301.nums
  refine List.filter_congr fun z _ => ?_
  cases h : l.all (Kp301.leads p z) with
  | false => rw [Bool.and_false]
  | true =>
    cases c : l.contains z with
    | false => rfl
    | true =>
      have m : z ∈ l := by simpa using c
      have := List.all_eq_true.mp h z m
      rw [leads_self] at this
      cases this

/-! ### what is kept -/
/-- what holds of a begun object -/
structure Good (p : Nat) (l : List Nat) : Prop where
  ok : Kp301.okP p = true
  lt : ∀ x ∈ l, x < p
  nd : l.Nodup
  len : l.length ≤ 12
theorem nodup_map {g : Nat → Nat} : ∀ {l : List Nat}, l.Nodup → (∀ x ∈ l, ∀ y ∈ l, g x = g y → x = y) → (l.map g).Nodup
  | [], _, _ => List.nodup_nil
  | a :: l, h, hi => by
    obtain ⟨h1, h2⟩ := List.nodup_cons.mp h
    refine List.nodup_cons.mpr ⟨fun m => ?_, nodup_map h2 fun x hx y hy => hi x (List.mem_cons_of_mem _ hx) y (List.mem_cons_of_mem _ hy)⟩
    obtain ⟨b, hb, e⟩ := List.mem_map.mp m
    exact h1 (by rw [hi a (List.mem_cons_self ..) b (List.mem_cons_of_mem _ hb) e.symm]; exact hb)
theorem Good.nil {p : Nat} (h : Kp301.okP p = true) : Good p [] := ⟨h, fun x hx => (by cases hx), List.nodup_nil, Nat.zero_le _⟩
theorem Good.snoc {p x : Nat} {l : List Nat} (g : Good p l) (hx : x < p) (hn : x ∉ l) (hl : l.length < 12) : Good p (l ++ [x]) := by
  refine ⟨g.ok, fun y hy => ?_, ?_, by rw [List.length_append, List.length_singleton]; omega⟩
  · rcases List.mem_append.mp hy with h | h
    · exact g.lt y h
    · rw [List.mem_singleton.mp h]; exact hx
  · refine List.nodup_append.mpr ⟨g.nd, by simp, fun a ha b hb e => ?_⟩
    rw [List.mem_singleton.mp hb] at e
    exact hn (by rw [← e]; exact ha)
theorem Good.filter {p : Nat} {l : List Nat} (g : Good p l) (f : Nat → Bool) : Good p (l.filter f) :=
  ⟨g.ok, fun y hy => g.lt y (List.mem_filter.mp hy).1, g.nd.filter f, Nat.le_trans (List.length_filter_le ..) g.len⟩
theorem Good.moved {p : Nat} {l : List Nat} (g : Good p l) (t : Nat) : Good p (Kp301.moved p t l) := by
  have h3 := (okP_lt g.ok).1
  refine ⟨g.ok, fun y hy => ?_, nodup_map g.nd fun x hx y hy e => ?_, by unfold Kp301.moved; rw [List.length_map]; exact g.len⟩
  · obtain ⟨x, _, rfl⟩ := List.mem_map.mp hy
    exact Nat.mod_lt _ (by omega)
  · have h1 := g.lt x hx
    have h2 := g.lt y hy
    have ht : t % p < p := Nat.mod_lt _ (by omega)
    have ex : (x + t) % p = if x + t % p < p then x + t % p else x + t % p - p := by
      rw [Nat.add_mod, Nat.mod_eq_of_lt h1]
      split
      · rename_i q; exact Nat.mod_eq_of_lt q
      · rename_i q
        rw [Nat.mod_eq_sub_mod (by omega), Nat.mod_eq_of_lt (by omega)]
    have ey : (y + t) % p = if y + t % p < p then y + t % p else y + t % p - p := by
      rw [Nat.add_mod, Nat.mod_eq_of_lt h2]
      split
      · rename_i q; exact Nat.mod_eq_of_lt q
      · rename_i q
        rw [Nat.mod_eq_sub_mod (by omega), Nat.mod_eq_of_lt (by omega)]
    have e' : (x + t) % p = (y + t) % p := e
    rw [ex, ey] at e'
    split at e' <;> split at e' <;> omega
theorem Good.timed {p k : Nat} {l : List Nat} (g : Good p l) (hk : k % p ≠ 0) : Good p (Kp301.timed p k l) := by
  have h3 := (okP_lt g.ok).1
  refine ⟨g.ok, fun y hy => ?_, nodup_map g.nd fun x hx y hy e => mul_inj g.ok hk (g.lt x hx) (g.lt y hy) e, by unfold Kp301.timed; rw [List.length_map]; exact g.len⟩
  obtain ⟨x, _, rfl⟩ := List.mem_map.mp hy
  exact Nat.mod_lt _ (by omega)
theorem moved_mod (p t : Nat) (l : List Nat) : Kp301.moved p (t % p) l = l.map fun x => (x + t) % p := by
  unfold Kp301.moved
  refine List.map_congr_left fun x _ => ?_
  rw [Nat.add_mod, Nat.mod_mod, ← Nat.add_mod]
theorem timed_mod (p k : Nat) (l : List Nat) : Kp301.timed p (k % p) l = l.map fun x => k * x % p := by
  unfold Kp301.timed
  refine List.map_congr_left fun x _ => ?_
  rw [Nat.mul_mod, Nat.mod_mod, ← Nat.mul_mod, Nat.mul_comm]
/-- the first that is x taken away: all that are x, where no two are alike -/
theorem erase_filter : ∀ {l : List Nat} {x j : Nat}, l.Nodup → l[j]? = some x → l.eraseIdx j = l.filter fun y => y != x
  | [], x, j, _, h => by simp at h
  | a :: l, x, 0, hn, h => by
    have e : a = x := Option.some.inj h
    subst e
    obtain ⟨h1, _⟩ := List.nodup_cons.mp hn
    show l = _
    rw [List.filter_cons, if_neg (by simp)]
    refine (List.filter_eq_self.mpr fun y hy => ?_).symm
    exact bne_iff_ne.mpr fun e => h1 (by rw [← e]; exact hy)
  | a :: l, x, j + 1, hn, h => by
    obtain ⟨h1, h2⟩ := List.nodup_cons.mp hn
    have h' : l[j]? = some x := h
    have hx : x ∈ l := List.mem_of_getElem? h'
    show a :: l.eraseIdx j = _
    rw [List.filter_cons, if_pos (bne_iff_ne.mpr fun e => h1 (by rw [e]; exact hx)), erase_filter h2 h']
theorem erase_len {l : List Nat} {x j : Nat} (h : l[j]? = some x) : (l.eraseIdx j).length = l.length - 1 := by
  have := (List.getElem?_eq_some_iff.mp h).1
  rw [List.length_eraseIdx, if_pos this]
theorem first_at : ∀ {l : List Nat} {x : Nat}, x ∈ l → ∃ j : Nat, l[j]? = some x ∧ ∀ m, m < j → l[m]? ≠ some x
  | [], x, h => by cases h
  | a :: l, x, h => by
    by_cases e : a = x
    · exact ⟨0, by rw [e]; rfl, fun m hm => by omega⟩
    · obtain ⟨j, h1, h2⟩ := first_at (l := l) (x := x) ((List.mem_cons.mp h).resolve_left fun q => e q.symm)
      refine ⟨j + 1, h1, fun m hm => ?_⟩
      match m, hm with
      | 0, _ => exact fun q => e (Option.some.inj q)
      | m + 1, hm => exact h2 m (by omega)
end Px
set_option Elab.async false
set_option linter.all false
set_option maxRecDepth 100000
/-! More of the specification's mathematics: two steps are enough; both ways by primes that leave 1, one way by those that leave 3; what rounds and differ count. -/
namespace Px
/-! ### products of squares -/
theorem kind_mul {p a b : Nat} (h : Kp301.okP p = true) (ha : Kp297.kind p a = 1) (hb : Kp297.kind p b = 1) : Kp297.kind p (a * b) = 1 := by
  have h3 := (okP_lt h).1
  have hp : 0 < p := by omega
  have ha' : Kp297.kind p (a % p) = 1 := by rw [kind_mod]; exact ha
  have hb' : Kp297.kind p (b % p) = 1 := by rw [kind_mod]; exact hb
  obtain ⟨n, n1, n2, en⟩ := (sq_iff h (Nat.mod_lt a hp)).mpr ha'
  obtain ⟨m, m1, m2, em⟩ := (sq_iff h (Nat.mod_lt b hp)).mpr hb'
  rw [← kind_mod]
  refine (sq_iff h (Nat.mod_lt _ hp)).mp ⟨n * m % p, ?_, Nat.mod_lt _ hp, ?_⟩
  · have hn : n % p ≠ 0 := by rw [Nat.mod_eq_of_lt n2]; omega
    have hm : m % p ≠ 0 := by rw [Nat.mod_eq_of_lt m2]; omega
    have := mul_ne h hn hm
    omega
  · rw [← Nat.mul_mod]
    have e : n * m * (n * m) = (n * n) * (m * m) := by
      rw [Nat.mul_assoc, Nat.mul_assoc, Nat.mul_left_comm m n m]
    rw [e, Nat.mul_mod, en, em, ← Nat.mul_mod]
/-! ### the prime less 1 -/
def minusOk (p : Nat) : Bool := !Kp301.okP p || (if p % 4 = 1 then Kp297.kind p (p - 1) == 1 else Kp297.kind p (p - 1) != 1)
theorem minus_all : ∀ p, p < 200 → minusOk p = true := by decide +kernel
theorem minus_one {p : Nat} (h : Kp301.okP p = true) (h4 : p % 4 = 1) : Kp297.kind p (p - 1) = 1 := by
  have := minus_all p (okP_lt h).2
  unfold minusOk at this
  rw [h, if_pos h4] at this
  simpa using this
theorem minus_three {p : Nat} (h : Kp301.okP p = true) (h4 : p % 4 = 3) : Kp297.kind p (p - 1) ≠ 1 := by
  have := minus_all p (okP_lt h).2
  unfold minusOk at this
  rw [h, if_neg (by omega)] at this
  simpa using this
theorem odd_four {p : Nat} (h : Kp301.okP p = true) : p % 4 = 1 ∨ p % 4 = 3 := by
  have := (okP_iff.mp h).2.2 2 (by omega) (by have := (okP_lt h).1; omega)
  omega
theorem add_cancel {p a b d : Nat} (ha : a < p) (hb : b < p) (hd : d < p) (e : (a + d) % p = (b + d) % p) : a = b := by
  have f : ∀ x, x < p → (x + d) % p = if x + d < p then x + d else x + d - p := fun x hx => by
    split
    · rename_i q; exact Nat.mod_eq_of_lt q
    · rename_i q
      rw [Nat.mod_eq_sub_mod (by omega), Nat.mod_eq_of_lt (by omega)]
  rw [f a ha, f b hb] at e
  split at e <;> split at e <;> omega
theorem kind_neg {p d : Nat} (h : Kp301.okP p = true) (hd : d < p) : Kp297.kind p ((p - 1) * d) = Kp297.kind p (p - d) := by
  have h3 := (okP_lt h).1
  rw [← kind_mod p ((p - 1) * d), ← kind_mod p (p - d)]
  have e : ((p - 1) * d + d) % p = (p - d + d) % p := by
    have e1 : (p - 1) * d + d = p * d := by
      have : (p - 1 + 1) * d = (p - 1) * d + d := Nat.succ_mul ..
      rw [← this]
      congr 1
      omega
    have e2 : p - d + d = p := by omega
    rw [e1, e2, Nat.mul_mod_right, Nat.mod_self]
  congr 1
  have e3 := Nat.add_mod ((p - 1) * d) d p
  have e4 := Nat.add_mod (p - d) d p
  rw [e3, e4, Nat.mod_eq_of_lt hd] at e
  exact add_cancel (Nat.mod_lt _ (by omega)) (Nat.mod_lt _ (by omega)) hd e
/-- by primes that leave 1 one leads both ways -/
theorem leads_sym {p x y : Nat} (h : Kp301.okP p = true) (h4 : p % 4 = 1) (hx : x < p) (hy : y < p) : Kp301.leads p x y = Kp301.leads p y x := by
  have key : ∀ a b : Nat, a < p → b < p → Kp301.leads p a b = true → Kp301.leads p b a = true := fun a b ha hb e => by
    unfold Kp301.leads at e ⊢
    have e1 : Kp297.kind p (b + p - a) = 1 := eq_of_beq e
    have e2 := kind_mul h (minus_one h h4) (by rw [← kind_mod] at e1; exact e1)
    rw [kind_neg h (Nat.mod_lt _ (by omega))] at e2
    refine beq_iff_eq.mpr ?_
    rw [← kind_mod] at e2 ⊢
    have : (p - (b + p - a) % p) % p = (a + p - b) % p := by
      by_cases c : a ≤ b
      · have q : (b + p - a) % p = b - a := by
          rw [Nat.mod_eq_sub_mod (by omega), Nat.mod_eq_of_lt (by omega)]
          omega
        rw [q]
        congr 1
        omega
      · have q : (b + p - a) % p = b + p - a := Nat.mod_eq_of_lt (by omega)
        rw [q]
        have q2 : (a + p - b) % p = a - b := by
          rw [Nat.mod_eq_sub_mod (by omega), Nat.mod_eq_of_lt (by omega)]
          omega
        rw [q2, Nat.mod_eq_of_lt (by omega)]
        omega
    rw [← this]
    exact e2
  rw [Bool.eq_iff_iff]
  exact ⟨key x y hx hy, key y x hy hx⟩
/-! ### two steps are enough -/
/-- every difference that is no square's remainder is a sum of two -/
def sums (p : Nat) : Bool := !Kp301.okP p || (List.range p).all fun d => d == 0 || (Kp297.kind p d == 1 || (List.range p).any fun a => Kp297.kind p a == 1 && Kp297.kind p ((d + p - a) % p) == 1)
theorem sums_all : ∀ p, p < 200 → sums p = true := by decide +kernel
/-- from any point one comes to any other one by one step or two -/
theorem two_steps {p x y : Nat} (h : Kp301.okP p = true) (hx : x < p) (hy : y < p) (hn : x ≠ y) (hl : Kp301.leads p x y = false) : ∃ z, z < p ∧ Kp301.leads p x z = true ∧ Kp301.leads p z y = true := by
  have h3 := (okP_lt h).1
  have hs := sums_all p (okP_lt h).2
  unfold sums at hs
  rw [h] at hs
  have hs : ((List.range p).all fun d => d == 0 || (Kp297.kind p d == 1 || (List.range p).any fun a => Kp297.kind p a == 1 && Kp297.kind p ((d + p - a) % p) == 1)) = true := hs
  have hd : (y + p - x) % p < p := Nat.mod_lt _ (by omega)
  have q := List.all_eq_true.mp hs _ (List.mem_range.mpr hd)
  have hl' : (Kp297.kind p ((y + p - x) % p) == 1) = false := by
    unfold Kp301.leads at hl
    rw [kind_mod]
    exact hl
  have h0 : ((y + p - x) % p == 0) = false := by
    refine beq_eq_false_iff_ne.mpr fun e => ?_
    by_cases c : x ≤ y
    · rw [Nat.mod_eq_sub_mod (by omega), Nat.mod_eq_of_lt (by omega)] at e
      omega
    · rw [Nat.mod_eq_of_lt (by omega)] at e
      omega
  rw [h0, hl', Bool.false_or, Bool.false_or] at q
  obtain ⟨a, ha, e⟩ := List.any_eq_true.mp q
  rw [Bool.and_eq_true, beq_iff_eq, beq_iff_eq] at e
  have hap := List.mem_range.mp ha
  refine ⟨(x + a) % p, Nat.mod_lt _ (by omega), ?_, ?_⟩
  · unfold Kp301.leads
    refine beq_iff_eq.mpr ?_
    rw [← kind_mod, ← e.1]
    congr 1
    by_cases c : x + a < p
    · rw [Nat.mod_eq_of_lt c, Nat.mod_eq_sub_mod (by omega), Nat.mod_eq_of_lt (by omega)]
      omega
    · rw [Nat.mod_eq_sub_mod (a := x + a) (by omega), Nat.mod_eq_of_lt (a := x + a - p) (by omega), Nat.mod_eq_of_lt (by omega)]
      omega
  · unfold Kp301.leads
    refine beq_iff_eq.mpr ?_
    rw [← kind_mod, ← e.2]
    congr 1
    generalize hD : (y + p - x) % p = D at *
    have hD2 : D = if x ≤ y then y - x else y + p - x := by
      rw [← hD]
      split
      · rw [Nat.mod_eq_sub_mod (by omega), Nat.mod_eq_of_lt (by omega)]
        omega
      · rw [Nat.mod_eq_of_lt (by omega)]
    have m1 : (x + a) % p = if x + a < p then x + a else x + a - p := by
      split
      · rename_i q2; exact Nat.mod_eq_of_lt q2
      · rw [Nat.mod_eq_sub_mod (by omega), Nat.mod_eq_of_lt (by omega)]
    have m2 : ∀ u v : Nat, u < p → v < p → (u + p - v) % p = if v ≤ u then u - v else u + p - v := fun u v hu hv => by
      split
      · rw [Nat.mod_eq_sub_mod (by omega), Nat.mod_eq_of_lt (by omega)]
        omega
      · rw [Nat.mod_eq_of_lt (by omega)]
    rw [m2 y _ hy (Nat.mod_lt _ (by omega)), m2 D a hd hap, m1]
    split at hD2 <;> split <;> split <;> split <;> omega
end Px
set_option Elab.async false
set_option linter.all false
set_option maxRecDepth 100000
namespace Px
/-! ### one way by primes that leave 3 -/
def oneWay (p : Nat) : Bool := !Kp301.okP p || (p % 4 == 1 || (List.range p).all fun d => Kp297.kind p d != 1 || Kp297.kind p (p - d) != 1)
theorem oneWay_all : ∀ p, p < 200 → oneWay p = true := by decide +kernel
end Px
set_option Elab.async false
set_option linter.all false
set_option maxRecDepth 100000
namespace Px
/-- some number by which no square becomes one -/
def noSq (p : Nat) : Bool := !Kp301.okP p || (p % 4 == 3 || (List.range p).any fun r => (List.range p).all fun d => Kp297.kind p d != 1 || Kp297.kind p (r * d) == 2)
theorem noSq_all : ∀ p, p < 200 → noSq p = true := by decide +kernel
end Px
set_option Elab.async false
set_option linter.all false
set_option maxRecDepth 100000
/-! What rounds, inner, group, differ count: sums over places. -/
namespace Px
/-! ### sums and counts below n -/
def sm : Nat → (Nat → Nat) → Nat
  | 0, _ => 0
  | n + 1, f => sm n f + f n
def ct (n : Nat) (b : Nat → Bool) : Nat := ((List.range n).filter b).length
theorem ct_zero (b : Nat → Bool) : ct 0 b = 0 := rfl
theorem ct_succ (n : Nat) (b : Nat → Bool) : ct (n + 1) b = ct n b + if b n = true then 1 else 0 := by
  unfold ct
  rw [List.range_succ, List.filter_append, List.length_append, List.filter_cons, List.filter_nil]
  split <;> rfl
theorem sm_congr : ∀ {n : Nat} {f g : Nat → Nat}, (∀ i, i < n → f i = g i) → sm n f = sm n g
  | 0, _, _, _ => rfl
  | n + 1, f, g, h => by
    show sm n f + f n = sm n g + g n
    rw [sm_congr (n := n) fun i hi => h i (by omega), h n (by omega)]
theorem ct_congr {n : Nat} {f g : Nat → Bool} (h : ∀ i, i < n → f i = g i) : ct n f = ct n g := by
  unfold ct
  rw [List.filter_congr fun x hx => h x (List.mem_range.mp hx)]
theorem sm_add : ∀ (n : Nat) (f g : Nat → Nat), sm n (fun i => f i + g i) = sm n f + sm n g
  | 0, _, _ => rfl
  | n + 1, f, g => by
    show sm n (fun i => f i + g i) + (f n + g n) = (sm n f + f n) + (sm n g + g n)
    rw [sm_add n f g]
    omega
theorem sm_ite : ∀ (n : Nat) (b : Nat → Bool), sm n (fun i => if b i = true then 1 else 0) = ct n b
  | 0, _ => rfl
  | n + 1, b => by
    show sm n (fun i => if b i = true then 1 else 0) + (if b n = true then 1 else 0) = _
    rw [sm_ite n b, ct_succ]
theorem ct_or : ∀ {n : Nat} {a b : Nat → Bool}, (∀ i, i < n → ¬ (a i = true ∧ b i = true)) → ct n (fun i => a i || b i) = ct n a + ct n b
  | 0, _, _, _ => rfl
  | n + 1, a, b, h => by
    rw [ct_succ, ct_succ, ct_succ, ct_or (n := n) fun i hi => h i (by omega)]
    have := h n (by omega)
    cases ha : a n <;> cases hb : b n <;> simp_all <;> omega
theorem ct_none : ∀ {n : Nat} {a : Nat → Bool}, (∀ i, i < n → a i = false) → ct n a = 0
  | 0, _, _ => rfl
  | n + 1, a, h => by
    rw [ct_succ, ct_none (n := n) fun i hi => h i (by omega), h n (by omega)]
    rfl
theorem ct_le : ∀ {n : Nat} {a b : Nat → Bool}, (∀ i, i < n → a i = true → b i = true) → ct n a ≤ ct n b
  | 0, _, _, _ => Nat.le_refl _
  | n + 1, a, b, h => by
    rw [ct_succ, ct_succ]
    have h1 := ct_le (n := n) (a := a) (b := b) fun i hi => h i (by omega)
    have h2 := h n (by omega)
    cases ha : a n <;> cases hb : b n <;> simp_all <;> omega
theorem ct_all : ∀ {n : Nat} {a b : Nat → Bool}, (∀ i, i < n → a i = true → b i = true) → ct n a = ct n b → ∀ i, i < n → b i = true → a i = true
  | 0, _, _, _, _ => fun i hi => by omega
  | n + 1, a, b, h, e => fun i hi hb => by
    rw [ct_succ, ct_succ] at e
    have h1 := ct_le (n := n) (a := a) (b := b) fun i hi => h i (by omega)
    have h2 := h n (by omega)
    have e1 : ct n a = ct n b ∧ (b n = true → a n = true) := by
      cases ha : a n <;> cases hb : b n <;> simp_all <;> omega
    by_cases hin : i = n
    · rw [hin] at hb ⊢
      exact e1.2 hb
    · exact ct_all (n := n) (fun i hi => h i (by omega)) e1.1 i (by omega) hb
theorem ct_but : ∀ {n i : Nat}, i < n → ct n (fun j => j != i) + 1 = n
  | 0, _, h => by omega
  | n + 1, i, h => by
    rw [ct_succ]
    by_cases hin : i = n
    · subst hin
      have : ct i (fun j => j != i) = i := by
        unfold ct
        rw [List.filter_eq_self.mpr fun x hx => bne_iff_ne.mpr (by have := List.mem_range.mp hx; omega), List.length_range]
      rw [this]
      simp
    · have := ct_but (n := n) (i := i) (by omega)
      have e : (n != i) = true := bne_iff_ne.mpr fun z => hin z.symm
      rw [e]
      simp only [if_true]
      omega
theorem sm_max : ∀ {n m : Nat} {c : Nat → Nat}, (∀ i, i < n → c i ≤ m) → sm n c ≤ n * m ∧ (sm n c = n * m → ∀ i, i < n → c i = m)
  | 0, _, _, _ => ⟨by simp [sm], fun _ i hi => by omega⟩
  | n + 1, m, c, h => by
    obtain ⟨h1, h2⟩ := sm_max (n := n) (m := m) (c := c) fun i hi => h i (by omega)
    have h3 := h n (by omega)
    have e : (n + 1) * m = n * m + m := Nat.succ_mul ..
    refine ⟨?_, fun q i hi => ?_⟩
    · show sm n c + c n ≤ _
      omega
    · have q : sm n c + c n = (n + 1) * m := q
      by_cases hin : i = n
      · rw [hin]; omega
      · exact h2 (by omega) i (by omega)
theorem sm_const {n m : Nat} {c : Nat → Nat} (h : ∀ i, i < n → c i = m) : sm n c = n * m := by
  induction n with
  | zero => simp [sm]
  | succ n ih =>
    show sm n c + c n = _
    rw [ih fun i hi => h i (by omega), h n (by omega), Nat.succ_mul]

/-! ### pairs: all ordered ones are those that rise and those that fall -/
def tot (n : Nat) (R : Nat → Nat → Bool) : Nat := sm n fun i => ct n (R i)
def up (n : Nat) (R : Nat → Nat → Bool) : Nat := sm n fun i => ct n fun j => decide (i < j) && R i j
theorem up_succ (n : Nat) (R : Nat → Nat → Bool) : up (n + 1) R = up n R + ct n fun i => R i n := by
  show (sm n fun i => ct (n + 1) fun j => decide (i < j) && R i j) + ct (n + 1) (fun j => decide (n < j) && R n j) = _
  have e1 : ct (n + 1) (fun j => decide (n < j) && R n j) = 0 := ct_none fun i hi => by rw [decide_eq_false (by omega)]; rfl
  have e2 : (sm n fun i => ct (n + 1) fun j => decide (i < j) && R i j) = sm n fun i => (ct n fun j => decide (i < j) && R i j) + if R i n = true then 1 else 0 := by
    refine sm_congr fun i hi => ?_
    rw [ct_succ, decide_eq_true hi, Bool.true_and]
  rw [e1, e2, sm_add, sm_ite]
  rfl
theorem tot_split : ∀ (n : Nat) (R : Nat → Nat → Bool), (∀ i, i < n → R i i = false) → tot n R = up n R + up n fun i j => R j i
  | 0, _, _ => rfl
  | n + 1, R, h => by
    have ih := tot_split n R fun i hi => h i (by omega)
    rw [up_succ, up_succ]
    show (sm n fun i => ct (n + 1) (R i)) + ct (n + 1) (R n) = _
    have e2 : (sm n fun i => ct (n + 1) (R i)) = sm n fun i => ct n (R i) + if R i n = true then 1 else 0 := sm_congr fun i hi => ct_succ n (R i)
    rw [e2, sm_add, sm_ite, ct_succ, h n (by omega)]
    have e3 : (sm n fun i => ct n (R i)) = tot n R := rfl
    rw [e3, ih]
    simp only [Bool.false_eq_true, if_false]
    show up n R + up n (fun i j => R j i) + ct n (fun i => R i n) + (ct n (R n) + 0) = up n R + ct n (fun i => R i n) + (up n (fun i j => R j i) + ct n (R n))
    omega
theorem up_congr {n : Nat} {R S : Nat → Nat → Bool} (h : ∀ i, i < n → ∀ j, j < n → R i j = S i j) : up n R = up n S := by
  refine sm_congr fun i hi => ct_congr fun j hj => ?_
  rw [h i hi j hj]
theorem up_or {n : Nat} {R S : Nat → Nat → Bool} (h : ∀ i, i < n → ∀ j, j < n → ¬ (R i j = true ∧ S i j = true)) : up n (fun i j => R i j || S i j) = up n R + up n S := by
  unfold up
  rw [← sm_add]
  refine sm_congr fun i hi => ?_
  rw [← ct_or]
  · refine ct_congr fun j hj => ?_
    cases decide (i < j) <;> rfl
  · intro j hj q
    rw [Bool.and_eq_true, Bool.and_eq_true] at q
    exact h i hi j hj ⟨q.1.2, q.2.2⟩

/-! ### lists by their places -/
theorem sum_snoc (l : List Nat) (x : Nat) : (l ++ [x]).sum = l.sum + x := by rw [List.sum_append]; simp
theorem sum_range (f : Nat → Nat) : ∀ n, ((List.range n).map f).sum = sm n f
  | 0 => rfl
  | n + 1 => by
    rw [List.range_succ, List.map_append, List.map_singleton, sum_snoc, sum_range f n]
    rfl
theorem by_place (l : List Nat) : l = (List.range l.length).map fun i => l.getD i 0 := by
  refine List.ext_getElem (by simp) fun i h1 h2 => ?_
  simp [h1]
/-- how many pairs there are of one of xs and one of ys to which it leads -/
def oft (p : Nat) (xs ys : List Nat) : Nat := (xs.map fun x => (ys.filter (Kp301.leads p x)).length).sum
theorem filter_place (l : List Nat) (f : Nat → Bool) : (l.filter f).length = ct l.length fun i => f (l.getD i 0) := by
  have e := by_place l
  have e2 : (l.filter f).length = (((List.range l.length).map fun i => l.getD i 0).filter f).length := by rw [← e]
  rw [e2, List.filter_map, List.length_map]
  rfl
theorem oft_place (p : Nat) (l : List Nat) : oft p l l = tot l.length fun i j => Kp301.leads p (l.getD i 0) (l.getD j 0) := by
  unfold oft tot
  have e := by_place l
  have e2 : (l.map fun x => (l.filter (Kp301.leads p x)).length).sum = (((List.range l.length).map fun i => l.getD i 0).map fun x => (l.filter (Kp301.leads p x)).length).sum := by rw [← e]
  rw [e2, List.map_map, sum_range]
  exact sm_congr fun i _ => filter_place l _
theorem sum_filter (A : Nat → Bool) (f : Nat → Nat) : ∀ n, (((List.range n).filter A).map f).sum = sm n fun i => if A i = true then f i else 0
  | 0 => rfl
  | n + 1 => by
    rw [List.range_succ, List.filter_append, List.map_append, List.sum_append, sum_filter A f n, List.filter_cons, List.filter_nil]
    show _ = sm n _ + _
    split <;> simp_all
theorem oft_filter (p n m : Nat) (A B : Nat → Bool) : oft p ((List.range n).filter A) ((List.range m).filter B) = sm n fun y => if A y = true then ct m (fun z => B z && Kp301.leads p y z) else 0 := by
  unfold oft
  rw [sum_filter]
  refine sm_congr fun i _ => ?_
  split
  · unfold ct
    rw [List.filter_filter]
    congr 2
    funext z
    rw [Bool.and_comm]
  · rfl
theorem leads_asym {p x y : Nat} (h : Kp301.okP p = true) (h4 : p % 4 = 3) (hx : x < p) (hy : y < p) : ¬ (Kp301.leads p x y = true ∧ Kp301.leads p y x = true) := by
  have hs := oneWay_all p (okP_lt h).2
  unfold oneWay at hs
  rw [h] at hs
  have h41 : (p % 4 == 1) = false := by rw [h4]; rfl
  rw [h41] at hs
  have hs : ((List.range p).all fun d => Kp297.kind p d != 1 || Kp297.kind p (p - d) != 1) = true := hs
  rintro ⟨e1, e2⟩
  have hxy : x ≠ y := fun e => by rw [e, leads_self] at e1; cases e1
  have e1 : Kp297.kind p (y + p - x) = 1 := eq_of_beq e1
  have e2 : Kp297.kind p (x + p - y) = 1 := eq_of_beq e2
  have key : ∀ a b : Nat, a < p → b < a → Kp297.kind p (a + p - b) = 1 → Kp297.kind p (b + p - a) = 1 → False := fun a b ha hb k1 k2 => by
    have q := List.all_eq_true.mp hs (a - b) (List.mem_range.mpr (by omega))
    have r1 : Kp297.kind p (a - b) = 1 := by
      rw [← k1, ← kind_mod p (a + p - b)]
      congr 1
      rw [Nat.mod_eq_sub_mod (by omega), Nat.mod_eq_of_lt (by omega)]
      omega
    have r2 : Kp297.kind p (p - (a - b)) = 1 := by
      rw [← k2]
      congr 1
      omega
    rw [r1, r2] at q
    exact absurd q (by decide)
  by_cases c : x < y
  · exact key y x hy c e1 e2
  · exact key x y hx (by omega) e2 e1

/-! ### rounds, inner, group -/
def pairsOf (p n : Nat) : Nat := if p % 4 = 1 then n / 2 else n
theorem rounds_eq {p x : Nat} (h : Kp301.okP p = true) (hx : x < p) : pairsOf p (oft p ((List.range p).filter (Kp301.leads p x)) ((List.range p).filter fun z => Kp301.leads p z x)) = (Kp301.rounds p x).length := by
  have e0 : (Kp301.rounds p x).length = sm p fun y => if Kp301.leads p x y = true then ct p (fun z => Kp301.leads p y z && (Kp301.leads p z x && (p % 4 == 3 || decide (y < z)))) else 0 := by
    unfold Kp301.rounds Kp301.nums
    rw [List.length_flatMap, sum_range]
    refine sm_congr fun i _ => ?_
    split
    · rw [List.length_map]; rfl
    · rfl
  rw [e0, oft_filter]
  unfold pairsOf
  rcases odd_four h with h4 | h4
  · rw [if_pos h4]
    have e1 : (sm p fun y => if Kp301.leads p x y = true then ct p (fun z => Kp301.leads p z x && Kp301.leads p y z) else 0) = tot p fun y z => Kp301.leads p x y && (Kp301.leads p z x && Kp301.leads p y z) := by
      refine sm_congr fun y _ => ?_
      show (if Kp301.leads p x y = true then ct p (fun z => Kp301.leads p z x && Kp301.leads p y z) else 0) = ct p fun z => Kp301.leads p x y && (Kp301.leads p z x && Kp301.leads p y z)
      cases hc : Kp301.leads p x y with
      | true => rfl
      | false => exact (ct_none fun i _ => rfl).symm
    have e2 : (sm p fun y => if Kp301.leads p x y = true then ct p (fun z => Kp301.leads p y z && (Kp301.leads p z x && (p % 4 == 3 || decide (y < z)))) else 0) = up p fun y z => Kp301.leads p x y && (Kp301.leads p z x && Kp301.leads p y z) := by
      have h43 : (p % 4 == 3) = false := by rw [h4]; rfl
      refine sm_congr fun y _ => ?_
      show (if Kp301.leads p x y = true then ct p (fun z => Kp301.leads p y z && (Kp301.leads p z x && (p % 4 == 3 || decide (y < z)))) else 0) = ct p fun z => decide (y < z) && (Kp301.leads p x y && (Kp301.leads p z x && Kp301.leads p y z))
      cases hc : Kp301.leads p x y with
      | true =>
        refine ct_congr fun z _ => ?_
        rw [h43]
        cases Kp301.leads p y z <;> cases Kp301.leads p z x <;> cases decide (y < z) <;> rfl
      | false => exact (ct_none fun i _ => by rw [Bool.false_and, Bool.and_false]).symm
    rw [e1, e2, tot_split]
    · have e3 : (up p fun i j => Kp301.leads p x j && (Kp301.leads p i x && Kp301.leads p j i)) = up p fun y z => Kp301.leads p x y && (Kp301.leads p z x && Kp301.leads p y z) := by
        refine up_congr fun i hi j hj => ?_
        rw [leads_sym h h4 hx hj, leads_sym h h4 hi hx, leads_sym h h4 hj hi]
        cases Kp301.leads p j x <;> cases Kp301.leads p x i <;> rfl
      rw [e3]
      omega
    · intro i _
      rw [leads_self, Bool.and_false, Bool.and_false]
  · have h41 : ¬ p % 4 = 1 := by omega
    rw [if_neg h41]
    refine sm_congr fun y _ => ?_
    have h43 : (p % 4 == 3) = true := by rw [h4]; rfl
    split
    · refine ct_congr fun z _ => ?_
      rw [h43, Bool.true_or, Bool.and_true, Bool.and_comm]
    · rfl
theorem getD_lt {p : Nat} {l : List Nat} (hl : ∀ x ∈ l, x < p) {i : Nat} (hi : i < l.length) : l.getD i 0 < p := by
  have e : l.getD i 0 = l[i] := by simp [hi]
  rw [e]
  exact hl _ (List.getElem_mem hi)
theorem inner_eq {p : Nat} {l : List Nat} (h : Kp301.okP p = true) (hl : ∀ x ∈ l, x < p) : pairsOf p (oft p l l) = Kp301.inner p l := by
  have e0 : Kp301.inner p l = up l.length fun i j => Kp301.leads p (l.getD i 0) (l.getD j 0) || Kp301.leads p (l.getD j 0) (l.getD i 0) := by
    unfold Kp301.inner
    rw [List.length_flatMap, sum_range]
    rfl
  rw [e0, oft_place, tot_split l.length (fun i j => Kp301.leads p (l.getD i 0) (l.getD j 0)) fun i _ => leads_self]
  unfold pairsOf
  rcases odd_four h with h4 | h4
  · rw [if_pos h4]
    have e1 : (up l.length fun i j => Kp301.leads p (l.getD j 0) (l.getD i 0)) = up l.length fun i j => Kp301.leads p (l.getD i 0) (l.getD j 0) :=
      up_congr fun i hi j hj => leads_sym h h4 (getD_lt hl hj) (getD_lt hl hi)
    have e2 : (up l.length fun i j => Kp301.leads p (l.getD i 0) (l.getD j 0) || Kp301.leads p (l.getD j 0) (l.getD i 0)) = up l.length fun i j => Kp301.leads p (l.getD i 0) (l.getD j 0) :=
      up_congr fun i hi j hj => by rw [leads_sym h h4 (getD_lt hl hj) (getD_lt hl hi), Bool.or_self]
    rw [e1, e2]
    omega
  · rw [if_neg (by omega)]
    exact (up_or fun i hi j hj => leads_asym h h4 (getD_lt hl hi) (getD_lt hl hj)).symm
theorem group_eq {p : Nat} {l : List Nat} : Kp301.group p l = decide ((oft p l l : Int) = (l.length : Int) * ((l.length : Int) - 1)) := by
  have cast : ((oft p l l : Int) = (l.length : Int) * ((l.length : Int) - 1)) ↔ oft p l l = l.length * (l.length - 1) := by
    cases hn : l.length with
    | zero => simp
    | succ n =>
      have e : ((n + 1 : Nat) : Int) * (((n + 1 : Nat) : Int) - 1) = ((n + 1) * (n + 1 - 1) : Nat) := by
        rw [Int.natCast_mul]
        congr 1
        omega
      rw [e]
      omega
  have row : ∀ i, i < l.length → (∀ j, j < l.length → Kp301.leads p (l.getD i 0) (l.getD j 0) = true → (j != i) = true) := fun i hi j hj e => by
    refine bne_iff_ne.mpr fun z => ?_
    rw [z, leads_self] at e
    cases e
  have rowle : ∀ i, i < l.length → ct l.length (fun j => Kp301.leads p (l.getD i 0) (l.getD j 0)) ≤ l.length - 1 := fun i hi => by
    have := ct_le (row i hi)
    have := ct_but hi
    omega
  rw [Bool.eq_iff_iff, decide_eq_true_iff, cast, oft_place]
  unfold Kp301.group
  simp only [List.all_eq_true, List.mem_range, Bool.or_eq_true, beq_iff_eq]
  constructor
  · intro hall
    refine sm_const fun i hi => ?_
    have e : ct l.length (fun j => Kp301.leads p (l.getD i 0) (l.getD j 0)) = ct l.length (fun j => j != i) := by
      refine ct_congr fun j hj => ?_
      rw [Bool.eq_iff_iff, bne_iff_ne]
      refine ⟨fun e z => ?_, fun e => (hall i hi j hj).resolve_left fun z => e z.symm⟩
      rw [z, leads_self] at e
      cases e
    have := ct_but hi
    show ct l.length (fun j => Kp301.leads p (l.getD i 0) (l.getD j 0)) = l.length - 1
    omega
  · intro e i hi j hj
    have e1 : ct l.length (fun j => Kp301.leads p (l.getD i 0) (l.getD j 0)) = l.length - 1 := (sm_max rowle).2 e i hi
    by_cases hij : i = j
    · exact .inl hij
    · have := ct_but hi
      exact .inr (ct_all (row i hi) (by omega) j hj (bne_iff_ne.mpr fun z => hij z.symm))

/-! ### differ -/
theorem squares_mem {p z : Nat} (h : Kp301.okP p = true) : z ∈ Kp301.squares p ↔ z < p ∧ Kp297.kind p z = 1 := by
  have h3 := (okP_lt h).1
  unfold Kp301.squares Kp297.all Kp297.upTo
  rw [List.mem_filter, List.mem_map]
  constructor
  · rintro ⟨⟨i, hi, rfl⟩, e⟩
    have := List.mem_range.mp hi
    exact ⟨by omega, eq_of_beq e⟩
  · rintro ⟨h1, h2⟩
    have hz : z ≠ 0 := fun e => by
      have := (kind_one.mp h2).1
      rw [e, Nat.zero_mod] at this
      exact this rfl
    exact ⟨⟨z - 1, List.mem_range.mpr (by omega), by omega⟩, beq_iff_eq.mpr h2⟩
theorem squares_nd (p : Nat) : (Kp301.squares p).Nodup := by
  unfold Kp301.squares Kp297.all Kp297.upTo
  exact List.Pairwise.filter _ (nodup_map List.nodup_range fun x _ y _ e => by omega)
theorem emod_sub {p s d : Nat} (hp : 0 < p) (hs : s < p) : (((s : Int) - (d : Int)) % (p : Int)) = (((s + p - d % p) % p : Nat) : Int) := by
  have hd : d % p < p := Nat.mod_lt _ hp
  have e : ((s + p - d % p : Nat) : Int) = (s : Int) - (d : Int) % (p : Int) + p := by
    rw [← Int.natCast_emod]
    omega
  rw [Int.natCast_emod, e, Int.add_emod_right, Int.sub_emod, Int.sub_emod (s : Int) ((d : Int) % (p : Int)), Int.emod_emod]
theorem differ_eq {p d : Nat} {ks : List Nat} (h : Kp301.okP p = true) (hn : ks.Nodup) (hk : ∀ z, z ∈ ks ↔ z < p ∧ Kp297.kind p z = 1) : (ks.filter fun s => Kp297.kind p ((s + p - d % p) % p) == 1).length = Kp301.differ p d := by
  have h3 := (okP_lt h).1
  have pm : ks.Perm (Kp301.squares p) := (List.perm_ext_iff_of_nodup hn (squares_nd p)).mpr fun z => (hk z).trans (squares_mem h).symm
  rw [(pm.filter _).length_eq]
  unfold Kp301.differ
  refine congrArg List.length (List.filter_congr fun s _ => ?_)
  rw [Bool.eq_iff_iff, beq_iff_eq, List.contains_iff_mem, squares_mem h]
  exact ⟨fun e => ⟨Nat.mod_lt _ (by omega), e⟩, fun e => e.2⟩
end Px
set_option Elab.async false
set_option linter.all false
set_option maxRecDepth 100000
/-! The greatest group: the search with the best so far handed on gives what the specification's gives; no group has more than 14. -/
namespace Px
open Kp301 (longer grow where_ leadsBy)
/-! ### longer -/
theorem longer_len (a b : List Nat) : (longer a b).length = max a.length b.length := by
  unfold longer
  split <;> omega
theorem longer_assoc (a b c : List Nat) : longer (longer a b) c = longer a (longer b c) := by
  unfold longer
  split <;> split <;> (try split) <;> (try split) <;> first | rfl | omega
theorem longer_keep {a b : List Nat} (h : b.length ≤ a.length) : longer a b = a := by
  unfold longer
  rw [if_neg (by omega)]
theorem longer_nil (a : List Nat) : longer [] a = a := by
  unfold longer
  split
  · rfl
  · rename_i h
    exact (List.length_eq_zero_iff.mp (by have : ¬ 0 < a.length := h; omega)).symm
/-! ### the walk over those that fit -/
def go1 (ml n : Nat) (G : Nat → List Nat) (b : List Nat) (i : Nat) : List Nat := if ml + (n - i) ≤ b.length then b else longer b (G i)
def goTo (l : List Nat) (n : Nat) (G : Nat → List Nat) (i : Nat) : List Nat := (List.range i).foldl (go1 l.length n G) l
theorem goTo_succ (l : List Nat) (n : Nat) (G : Nat → List Nat) (i : Nat) : goTo l n G (i + 1) = go1 l.length n G (goTo l n G i) i := by
  unfold goTo
  rw [List.range_succ, List.foldl_append]
  rfl
theorem go_turn {l best : List Nat} {n i : Nat} {G : Nat → List Nat} (h : ¬ l.length + (n - i) ≤ (longer best (goTo l n G i)).length) : longer (longer best (goTo l n G i)) (G i) = longer best (goTo l n G (i + 1)) := by
  rw [longer_len] at h
  rw [goTo_succ, longer_assoc]
  unfold go1
  rw [if_neg (by omega)]
theorem go_break {l best : List Nat} {n i : Nat} {G : Nat → List Nat} (hG : ∀ j, j < n → (G j).length ≤ l.length + (n - j)) (hi : i ≤ n) (h : l.length + (n - i) ≤ (longer best (goTo l n G i)).length) : longer best (goTo l n G n) = longer best (goTo l n G i) := by
  have key : ∀ k, i + k ≤ n → longer best (goTo l n G (i + k)) = longer best (goTo l n G i) := by
    intro k
    induction k with
    | zero => intro _; rfl
    | succ k ih =>
      intro hk
      have ih := ih (by omega)
      have e : i + (k + 1) = (i + k) + 1 := by omega
      rw [e, goTo_succ]
      unfold go1
      split
      · exact ih
      · rw [← longer_assoc, ih]
        refine longer_keep ?_
        have := hG (i + k) (by omega)
        omega
  have := key (n - i) (by omega)
  have e : i + (n - i) = n := by omega
  rw [e] at this
  exact this
/-! ### the specification's search -/
theorem leadsBy_eq {p x y : Nat} (hp : 0 < p) (hx : x ≤ y + p) : leadsBy (where_ p) p x y = Kp301.leads p x y := by
  have hz : (y + p - x) % p < p := Nat.mod_lt _ hp
  unfold leadsBy where_ Kp301.leads Kp301.nums
  rw [← kind_mod p (y + p - x)]
  simp [Array.getD, hz]
def nextG (p f : Nat) (l rest : List Nat) (i : Nat) : List Nat := grow (where_ p) p f (l ++ [rest.getD i 0]) ((rest.drop (i + 1)).filter fun z => leadsBy (where_ p) p (rest.getD i 0) z)
theorem grow_succ (p f : Nat) (l rest : List Nat) : grow (where_ p) p (f + 1) l rest = goTo l rest.length (nextG p f l rest) rest.length := rfl
theorem goTo_len {l : List Nat} {n : Nat} {G : Nat → List Nat} (hG : ∀ j, j < n → (G j).length ≤ l.length + (n - j)) : ∀ i, i ≤ n → (goTo l n G i).length ≤ l.length + n
  | 0, _ => by show l.length ≤ _; omega
  | i + 1, hi => by
    have ih := goTo_len hG i (by omega)
    rw [goTo_succ]
    unfold go1
    split
    · exact ih
    · rw [longer_len]
      have := hG i (by omega)
      omega
theorem grow_len (p : Nat) : ∀ (f : Nat) (l rest : List Nat), (grow (where_ p) p f l rest).length ≤ l.length + rest.length
  | 0, l, rest => by show l.length ≤ _; omega
  | f + 1, l, rest => by
    rw [grow_succ]
    refine goTo_len (fun j hj => ?_) _ (Nat.le_refl _)
    have h1 := grow_len p f (l ++ [rest.getD j 0]) ((rest.drop (j + 1)).filter fun z => leadsBy (where_ p) p (rest.getD j 0) z)
    have h2 := List.length_filter_le (fun z => leadsBy (where_ p) p (rest.getD j 0) z) (rest.drop (j + 1))
    rw [List.length_append, List.length_singleton] at h1
    rw [List.length_drop] at h2
    unfold nextG
    omega
theorem next_len (p f : Nat) (l rest : List Nat) (j : Nat) (hj : j < rest.length) : (nextG p f l rest j).length ≤ l.length + (rest.length - j) := by
  have h1 := grow_len p f (l ++ [rest.getD j 0]) ((rest.drop (j + 1)).filter fun z => leadsBy (where_ p) p (rest.getD j 0) z)
  have h2 := List.length_filter_le (fun z => leadsBy (where_ p) p (rest.getD j 0) z) (rest.drop (j + 1))
  rw [List.length_append, List.length_singleton] at h1
  rw [List.length_drop] at h2
  unfold nextG
  omega
theorem nextG_eq {p f : Nat} {l rest : List Nat} {i x : Nat} (hp : 0 < p) (hx : rest[i]? = some x) (hxp : x < p) : nextG p f l rest i = grow (where_ p) p f (l ++ [x]) ((rest.drop (i + 1)).filter (Kp301.leads p x)) := by
  have e : rest.getD i 0 = x := by rw [List.getD_eq_getElem?_getD, hx]; rfl
  unfold nextG
  rw [e]
  congr 1
  exact List.filter_congr fun z _ => leadsBy_eq hp (by omega)
/-! ### groups -/
structure Cl (p : Nat) (l : List Nat) : Prop where
  lt : ∀ x ∈ l, x < p
  pw : l.Pairwise fun a b => Kp301.leads p a b = true
def Fits (p : Nat) (l rest : List Nat) : Prop := ∀ z ∈ rest, z < p ∧ ∀ a ∈ l, Kp301.leads p a z = true
theorem Cl.snoc {p x : Nat} {l : List Nat} (c : Cl p l) (hx : x < p) (ha : ∀ a ∈ l, Kp301.leads p a x = true) : Cl p (l ++ [x]) := by
  refine ⟨fun y hy => ?_, List.pairwise_append.mpr ⟨c.pw, List.pairwise_singleton _ _, fun a h b hb => ?_⟩⟩
  · rcases List.mem_append.mp hy with h | h
    · exact c.lt y h
    · rw [List.mem_singleton.mp h]; exact hx
  · rw [List.mem_singleton.mp hb]
    exact ha a h
theorem Fits.next {p i x : Nat} {l rest : List Nat} (F : Fits p l rest) (hx : rest[i]? = some x) : Fits p (l ++ [x]) ((rest.drop (i + 1)).filter (Kp301.leads p x)) := by
  intro z hz
  obtain ⟨h1, h2⟩ := List.mem_filter.mp hz
  obtain ⟨h3, h4⟩ := F z (List.mem_of_mem_drop h1)
  refine ⟨h3, fun a ha => ?_⟩
  rcases List.mem_append.mp ha with h | h
  · exact h4 a h
  · rw [List.mem_singleton.mp h]; exact h2
theorem nd_flat {g : Nat → List Nat} : ∀ {bs : List Nat}, bs.Nodup → (∀ b ∈ bs, (g b).Nodup) → (∀ b ∈ bs, ∀ c ∈ bs, b ≠ c → ∀ x, x ∈ g b → x ∈ g c → False) → (bs.flatMap g).Nodup
  | [], _, _, _ => List.nodup_nil
  | b :: bs, hn, hg, hd => by
    obtain ⟨h1, h2⟩ := List.nodup_cons.mp hn
    rw [List.flatMap_cons]
    refine List.nodup_append.mpr ⟨hg b (List.mem_cons_self ..), nd_flat h2 (fun c hc => hg c (List.mem_cons_of_mem _ hc)) fun c hc d hd' => hd c (List.mem_cons_of_mem _ hc) d (List.mem_cons_of_mem _ hd'), fun x hx y hy e => ?_⟩
    obtain ⟨c, hc, hy⟩ := List.mem_flatMap.mp hy
    subst e
    exact hd b (List.mem_cons_self ..) c (List.mem_cons_of_mem _ hc) (fun e => h1 (by rw [e]; exact hc)) x hx hy
theorem flat_len {g : Nat → List Nat} {m : Nat} : ∀ {bs : List Nat}, (∀ b ∈ bs, (g b).length = m) → (bs.flatMap g).length = bs.length * m
  | [], _ => by simp
  | b :: bs, h => by
    rw [List.flatMap_cons, List.length_append, h b (List.mem_cons_self ..), flat_len fun c hc => h c (List.mem_cons_of_mem _ hc), List.length_cons, Nat.succ_mul]
    omega
theorem Cl.nd {p : Nat} {l : List Nat} (c : Cl p l) : l.Nodup := by
  refine c.pw.imp fun {a b} h e => ?_
  rw [e, leads_self] at h
  cases h
theorem Cl.both {p : Nat} {l : List Nat} (h : Kp301.okP p = true) (h4 : p % 4 = 1) (c : Cl p l) : ∀ a ∈ l, ∀ b ∈ l, a ≠ b → Kp301.leads p a b = true := by
  have sym : ∀ {a b : Nat}, a ∈ l → b ∈ l → Kp301.leads p a b = true → Kp301.leads p b a = true := fun {a b} ha hb e => by
    rw [leads_sym h h4 (c.lt b hb) (c.lt a ha)]; exact e
  obtain ⟨hlt, pw⟩ := c
  clear hlt
  induction l with
  | nil => intro a ha; cases ha
  | cons x l ih =>
    obtain ⟨h1, h2⟩ := List.pairwise_cons.mp pw
    intro a ha b hb hab
    rcases List.mem_cons.mp ha with ea | ea <;> rcases List.mem_cons.mp hb with eb | eb
    · exact absurd (ea.trans eb.symm) hab
    · rw [ea]; exact h1 b eb
    · have := h1 a ea
      rw [eb]
      exact sym (List.mem_cons_self ..) (List.mem_cons_of_mem _ ea) this
    · exact ih (fun ha hb e => sym (List.mem_cons_of_mem _ ha) (List.mem_cons_of_mem _ hb) e) h2 a ea b eb hab
theorem mod_same {p a a' r b b' : Nat} (hp : 0 < p) (hb : b < p) (ha' : a' < p) (e : (a + r * b) % p = (a' + r * b') % p) : (r * ((b' + p - b) % p)) % p = (a + p - a') % p := by
  have e1 : (((a + r * b : Nat) : Int) - ((a' + r * b' : Nat) : Int)) % (p : Int) = 0 := by
    have e2 : ((a + r * b : Nat) : Int) % (p : Int) = ((a' + r * b' : Nat) : Int) % (p : Int) := by
      rw [← Int.natCast_emod, ← Int.natCast_emod, e]
    exact Int.emod_eq_emod_iff_emod_sub_eq_zero.mp e2
  have d1 : (p : Int) ∣ ((a + r * b : Nat) : Int) - ((a' + r * b' : Nat) : Int) := Int.dvd_of_emod_eq_zero e1
  have d2 : (p : Int) ∣ (((b' + p - b) % p : Nat) : Int) - ((b' : Int) - (b : Int)) := by
    rw [← int_mod (show b ≤ b' + p by omega)]
    refine Int.dvd_of_emod_eq_zero ?_
    rw [← Int.emod_eq_emod_iff_emod_sub_eq_zero, Int.emod_emod]
  have d3 : (p : Int) ∣ ((r * ((b' + p - b) % p) : Nat) : Int) - ((a : Int) - (a' : Int)) := by
    have e3 : ((r * ((b' + p - b) % p) : Nat) : Int) - ((a : Int) - (a' : Int)) = (r : Int) * ((((b' + p - b) % p : Nat) : Int) - ((b' : Int) - (b : Int))) - (((a + r * b : Nat) : Int) - ((a' + r * b' : Nat) : Int)) := by
      rw [Int.natCast_mul, Int.natCast_add, Int.natCast_add, Int.natCast_mul, Int.natCast_mul, Int.mul_sub, Int.mul_sub]
      omega
    rw [e3]
    exact Int.dvd_sub (Int.dvd_mul_of_dvd_right d2) d1
  have e4 : ((r * ((b' + p - b) % p) : Nat) : Int) % (p : Int) = ((a : Int) - (a' : Int)) % (p : Int) := Int.emod_eq_emod_iff_emod_sub_eq_zero.mpr (Int.emod_eq_zero_of_dvd d3)
  rw [int_mod (show a' ≤ a + p by omega), ← Int.natCast_emod] at e4
  exact Int.ofNat.inj e4
theorem Cl.small {p : Nat} {l : List Nat} (h : Kp301.okP p = true) (h4 : p % 4 = 1) (c : Cl p l) : l.length ≤ 14 := by
  have h3 := (okP_lt h).1
  have h200 := (okP_lt h).2
  have hs := noSq_all p h200
  unfold noSq at hs
  have h43 : (p % 4 == 3) = false := by rw [h4]; rfl
  rw [h, h43] at hs
  have hs : ((List.range p).any fun r => (List.range p).all fun d => Kp297.kind p d != 1 || Kp297.kind p (r * d) == 2) = true := hs
  obtain ⟨r, _, hr⟩ := List.any_eq_true.mp hs
  have both := c.both h h4
  have nd : (l.flatMap fun b => l.map fun a => (a + r * b) % p).Nodup := by
    refine nd_flat c.nd (fun b hb => nodup_map c.nd fun x hx y hy e => ?_) fun b hb b' hb' hne x hx hx' => ?_
    · have e : (x + r * b) % p = (y + r * b) % p := e
      rw [Nat.add_mod, Nat.add_mod y] at e
      rw [Nat.mod_eq_of_lt (c.lt x hx), Nat.mod_eq_of_lt (c.lt y hy)] at e
      exact add_cancel (c.lt x hx) (c.lt y hy) (Nat.mod_lt _ (by omega)) e
    · obtain ⟨a, ha, ea⟩ := List.mem_map.mp hx
      obtain ⟨a', ha', ea'⟩ := List.mem_map.mp hx'
      have e := mod_same (p := p) (by omega) (c.lt b hb) (c.lt a' ha') (ea.trans ea'.symm)
      have hd : (b' + p - b) % p < p := Nat.mod_lt _ (by omega)
      have k1 : Kp297.kind p ((b' + p - b) % p) = 1 := by
        rw [kind_mod]
        exact eq_of_beq (both b hb b' hb' hne)
      have q := List.all_eq_true.mp hr _ (List.mem_range.mpr hd)
      rw [k1] at q
      have q : Kp297.kind p (r * ((b' + p - b) % p)) = 2 := by simpa using q
      rw [← kind_mod, e, kind_mod] at q
      by_cases haa : a' = a
      · have e5 : a + p - a' = p := by omega
        have k0 : Kp297.kind p p = 0 := by
          unfold Kp297.kind
          rw [Nat.mod_self, if_pos rfl]
        rw [e5, k0] at q
        cases q
      · have e6 : Kp297.kind p (a + p - a') = 1 := eq_of_beq (both a' ha' a ha haa)
        rw [e6] at q
        cases q
  have hl := List.Nodup.length_le_of_subset nd (l₂ := List.range p) fun x hx => by
    obtain ⟨b, _, hx⟩ := List.mem_flatMap.mp hx
    obtain ⟨a, _, rfl⟩ := List.mem_map.mp hx
    exact List.mem_range.mpr (Nat.mod_lt _ (by omega))
  rw [flat_len (m := l.length) fun b _ => List.length_map .., List.length_range] at hl
  by_cases q : l.length ≤ 14
  · exact q
  · have : 15 * 15 ≤ l.length * l.length := Nat.mul_le_mul (by omega) (by omega)
    omega
/-! ### the start -/
theorem start_fits {p : Nat} : Fits p [0, 1] ((List.range p).filter fun y => [0, 1].all fun x => Kp301.leads p x y) := by
  intro z hz
  obtain ⟨h1, h2⟩ := List.mem_filter.mp hz
  exact ⟨List.mem_range.mp h1, fun a ha => List.all_eq_true.mp h2 a ha⟩
theorem start_cl {p : Nat} (h : Kp301.okP p = true) : Cl p [0, 1] := by
  have h3 := (okP_lt h).1
  refine ⟨fun x hx => ?_, ?_⟩
  · rcases List.mem_cons.mp hx with e | e
    · omega
    · have := List.mem_singleton.mp e
      omega
  · refine List.pairwise_cons.mpr ⟨fun b hb => ?_, List.pairwise_singleton _ _⟩
    rw [List.mem_singleton.mp hb]
    unfold Kp301.leads
    refine beq_iff_eq.mpr ?_
    rw [← kind_mod]
    refine (sq_iff h (Nat.mod_lt _ (by omega))).mp ⟨1, by omega, by omega, ?_⟩
    have e : 1 + p - 0 = 1 + p := rfl
    rw [e, Nat.add_mod_right]
theorem greatest_eq {p : Nat} (h : Kp301.okP p = true) : Kp301.greatest p = longer [] (grow (where_ p) p 14 [0, 1] ((List.range p).filter fun y => [0, 1].all fun x => Kp301.leads p x y)) := by
  have h3 := (okP_lt h).1
  rw [longer_nil]
  unfold Kp301.greatest Kp301.nums
  show grow (where_ p) p 14 [0, 1] _ = _
  congr 1
  refine List.filter_congr fun z hz => ?_
  have hzp := List.mem_range.mp hz
  rw [leadsBy_eq (by omega) (by omega), leadsBy_eq (by omega) (by omega)]
  show _ = (Kp301.leads p 0 z && (Kp301.leads p 1 z && true))
  rw [Bool.and_true]
  by_cases h1 : 1 < z
  · rw [decide_eq_true h1, Bool.true_and]
  · rw [decide_eq_false h1, Bool.false_and]
    have : z = 0 ∨ z = 1 := by omega
    rcases this with e | e
    · rw [e, leads_self, Bool.false_and]
    · rw [e, leads_self, Bool.and_false]
theorem greatest_len {p : Nat} (h : Kp301.okP p = true) : (Kp301.greatest p).length ≤ 1000 := by
  rw [greatest_eq h, longer_nil]
  have h1 := grow_len p 14 [0, 1] ((List.range p).filter fun y => [0, 1].all fun x => Kp301.leads p x y)
  have h2 := List.length_filter_le (fun y => [0, 1].all fun x => Kp301.leads p x y) (List.range p)
  rw [List.length_range] at h2
  have := (okP_lt h).2
  have e : ([0, 1] : List Nat).length = 2 := rfl
  omega
end Px
set_option Elab.async false
set_option linter.all false
set_option maxRecDepth 100000
/-! Steps: the points that are reached in just so many. -/
namespace Px
theorem mod_two {p u : Nat} (h : u < 2 * p) : u % p = if u < p then u else u - p := by
  split
  · rename_i q; exact Nat.mod_eq_of_lt q
  · rw [Nat.mod_eq_sub_mod (by omega), Nat.mod_eq_of_lt (by omega)]
theorem lead_add {p y z : Nat} (hy : y < p) (hz : z < p) : Kp301.leads p y z = true ↔ ∃ s, (s < p ∧ Kp297.kind p s = 1) ∧ (y + s) % p = z := by
  unfold Kp301.leads
  rw [beq_iff_eq]
  constructor
  · intro e
    refine ⟨(z + p - y) % p, ⟨Nat.mod_lt _ (by omega), by rw [kind_mod]; exact e⟩, ?_⟩
    have h1 := mod_two (p := p) (u := z + p - y) (by omega)
    by_cases c : z + p - y < p
    · rw [if_pos c] at h1
      rw [h1, mod_two (by omega)]
      split <;> omega
    · rw [if_neg c] at h1
      rw [h1, mod_two (by omega)]
      split <;> omega
  · rintro ⟨s, ⟨hs, e⟩, rfl⟩
    rw [← e, ← kind_mod]
    congr 1
    have h1 := mod_two (p := p) (u := y + s) (by omega)
    by_cases c : y + s < p
    · rw [if_pos c] at h1
      rw [h1, mod_two (by omega)]
      split <;> omega
    · rw [if_neg c] at h1
      rw [h1, mod_two (by omega)]
      split <;> omega
structure Lay (p x y t : Nat) (ks : List Nat) : Prop where
  le : t ≤ Kp301.steps p x y
  lt : ∀ z ∈ ks, z < p
  l0 : t = 0 → ∀ z, z ∈ ks ↔ z = x
  l1 : t = 1 → ∀ z, z ∈ ks ↔ z < p ∧ Kp301.leads p x z = true
  l2 : t = 2 → y ∈ ks
theorem steps_two (p x y : Nat) : Kp301.steps p x y ≤ 2 := by
  unfold Kp301.steps
  split
  · omega
  · split <;> omega
theorem Lay.zero {p x y : Nat} (hx : x < p) : Lay p x y 0 [x] :=
  ⟨Nat.zero_le _, fun z hz => by rw [List.mem_singleton.mp hz]; exact hx, fun _ z => List.mem_singleton, fun h => (by cases h), fun h => (by cases h)⟩
theorem Lay.small {p x y t : Nat} {ks : List Nat} (L : Lay p x y t ks) (hn : y ∉ ks) : t < 2 := by
  have h1 := L.le
  have h2 := steps_two p x y
  by_cases h : t = 2
  · exact absurd (L.l2 h) hn
  · omega
theorem Lay.done {p x y t : Nat} {ks : List Nat} (hy : y < p) (L : Lay p x y t ks) (h : y ∈ ks) : t = Kp301.steps p x y := by
  have h1 := L.le
  have h2 := steps_two p x y
  by_cases h0 : t = 0
  · have := (L.l0 h0 y).mp h
    unfold Kp301.steps
    rw [if_pos this.symm, h0]
  · by_cases h3 : t = 1
    · have := ((L.l1 h3 y).mp h).2
      have hxy : ¬ x = y := fun e => by
        rw [e, leads_self] at this
        cases this
      unfold Kp301.steps
      rw [if_neg hxy, if_pos this, h3]
    · omega
theorem Lay.next {p x y t : Nat} {ks ks' : List Nat} (hp : Kp301.okP p = true) (hx : x < p) (hy : y < p) (L : Lay p x y t ks) (hn : y ∉ ks) (hk : ∀ z, z ∈ ks' ↔ z < p ∧ ∃ w ∈ ks, Kp301.leads p w z = true) : Lay p x y (t + 1) ks' := by
  have ht := L.small hn
  by_cases h0 : t = 0
  · have hxy : ¬ x = y := fun e => hn ((L.l0 h0 y).mpr e.symm)
    refine ⟨?_, fun z hz => ((hk z).mp hz).1, fun e => by omega, fun _ z => ?_, fun e => by omega⟩
    · unfold Kp301.steps
      rw [if_neg hxy]
      split <;> omega
    · rw [hk]
      refine and_congr_right fun _ => ⟨fun ⟨w, hw, e⟩ => by rw [← (L.l0 h0 w).mp hw]; exact e, fun e => ⟨x, (L.l0 h0 x).mpr rfl, e⟩⟩
  · have h1 : t = 1 := by omega
    have hxy : ¬ x = y := fun e => by
      have := L.le
      unfold Kp301.steps at this
      rw [if_pos e] at this
      omega
    have hl : Kp301.leads p x y = false := by
      cases e : Kp301.leads p x y with
      | false => rfl
      | true => exact absurd ((L.l1 h1 y).mpr ⟨hy, e⟩) hn
    refine ⟨?_, fun z hz => ((hk z).mp hz).1, fun e => by omega, fun e => by omega, fun _ => ?_⟩
    · unfold Kp301.steps
      rw [if_neg hxy, hl]
      simp
      omega
    · obtain ⟨z, hz, e1, e2⟩ := two_steps hp hx hy hxy hl
      exact (hk y).mpr ⟨hy, z, (L.l1 h1 z).mpr ⟨hz, e1⟩, e2⟩
end Px
set_option Elab.async false
set_option linter.all false
set_option maxRecDepth 100000
set_option maxHeartbeats 2000000
/-! The object, the text by places, and the promises of the small defs. -/
namespace Px
open PySem PySem.Spec PyProof.Rows L2

/-! ### a def of the module, with its promise -/
structure Dfn (P : Program) (w : World) (K : PySem.W.Frag) (mg : Str → Option Value) (base : Heap) (k : Nat) (x : Str) (ps : List Str) (sp : Sp) : Prop where
  ex : ∃ (f : Addr) (fd : FuncData), mg x = some (.ref f) ∧ PySem.W.keepIn K (.ref f) = true ∧ Binds K fd ps [] ∧ FnOk P w K mg base CX0 k f fd ps sp
section
variable {X : Cx} {x : Str} {ps : List Str} {sp : Sp} {k : Nat} {e : Expr} {es : List Expr} {t : TA} {p pos : Pos}
theorem pe_D (D : Dfn X.prog X.w X.K X.mg X.base k x ps sp) (hr : Room k X.A) (hg : Gl X x) (ha : PA X (e :: es) t) (hdb : (x == ("__debug__" : Str)) = false := by decide)
    (he : starEach (e :: es) X.env = (false, eval e X.env) :: starEach es X.env := by rfl) (hpl : (backTo pos (starEach es X.env)).any (·.1) = false := by rfl) :
    PE X (.Call (.Name x p) (e :: es) [] pos) (tCall sp [] E0 t) := by
  obtain ⟨f, fd, hm, hk, hb, F⟩ := D.ex
  exact pe_call F hr hg hm hk hb .nil pass0 ha hdb he hpl
theorem pe_gi {i : Int} (h : ∃ t, X.mg x = some (.int i t)) (hg : Gl X x) (hd : (x == ("__debug__" : Str)) = false := by decide) : PE X (.Name x pos) (tC (.int i)) := by
  obtain ⟨t, h⟩ := h
  exact pe_glob hg h ⟨t, rfl⟩ hd
theorem pe_gr {a : Addr} (h : X.mg x = some (.ref a)) (hg : Gl X x) (hd : (x == ("__debug__" : Str)) = false := by decide) : PE X (.Name x pos) (tC (.ref a)) := pe_glob hg h rfl hd
end

/-! ### the object -/
def nI (l : List Nat) : List V := l.map fun (n : Nat) => V.int (n : Int)
def iI (l : List Int) : List V := l.map V.int
theorem nI_get {l : List Nat} {i : Nat} {x : V} (h : (nI l)[i]? = some x) : ∃ n, l[i]? = some n ∧ x = V.int (n : Int) := by
  unfold nI at h
  rw [List.getElem?_map] at h
  cases e : l[i]? with
  | none => rw [e] at h; cases h
  | some n => rw [e] at h; exact ⟨n, rfl, (Option.some.inj h).symm⟩
theorem nI_len (l : List Nat) : (nI l).length = l.length := List.length_map ..
def rf (p : Nat) (d l : Addr) : List (Str × V) := [("prime", .int (p : Int)), ("squares", .ref d), ("kept_points", .ref l)]
theorem rf_p (p : Nat) (d l : Addr) : (rf p d l).lookup ("prime" : Str) = some (.int (p : Int)) := rfl
theorem rf_s (p : Nat) (d l : Addr) : (rf p d l).lookup ("squares" : Str) = some (.ref d) := rfl
theorem rf_k (p : Nat) (d l : Addr) : (rf p d l).lookup ("kept_points" : Str) = some (.ref l) := rfl
theorem rf_pp (p q : Nat) (d l : Addr) : putF "prime" (.int (q : Int)) (rf p d l) = rf q d l := by
  unfold rf
  rw [putF, if_pos rfl]
theorem rf_ps (p : Nat) (d e l : Addr) : putF "squares" (.ref e) (rf p d l) = rf p e l := by
  unfold rf
  rw [putF, if_neg (by decide), putF, if_pos rfl]
theorem rf_pk (p : Nat) (d l m : Addr) : putF "kept_points" (.ref m) (rf p d l) = rf p d m := by
  unfold rf
  rw [putF, if_neg (by decide), putF, if_neg (by decide), putF, if_pos rfl]
/-! ### a dict whose keys are whole numbers -/
def keyN (n : Nat) : Key := Sum.inl (n : Int)
theorem keyN_inj {a b : Nat} (h : keyN a = keyN b) : a = b := Int.ofNat.inj (Sum.inl.inj h)
/-- its keys are just ks, in order, no two alike -/
structure KeysN (kvs : List (Key × V)) (ks : List Nat) : Prop where
  eq : kvs.map (·.1) = ks.map keyN
  nd : ks.Nodup
theorem KeysN.nil : KeysN [] [] := ⟨rfl, List.nodup_nil⟩
theorem KeysN.len {kvs : List (Key × V)} {ks : List Nat} (h : KeysN kvs ks) : kvs.length = ks.length := by
  have := congrArg List.length h.eq
  rw [List.length_map, List.length_map] at this
  exact this
theorem mem_keyN {ks : List Nat} {z : Nat} : keyN z ∈ ks.map keyN ↔ z ∈ ks := by
  rw [List.mem_map]
  exact ⟨fun ⟨a, h, e⟩ => by rw [← keyN_inj e]; exact h, fun h => ⟨z, h, rfl⟩⟩
theorem KeysN.val {kvs : List (Key × V)} {ks : List Nat} (h : KeysN kvs ks) (z : Nat) : (valV kvs (keyN z)).isSome = true ↔ z ∈ ks := by
  rw [← mem_keyN, ← h.eq]
  cases e : valV kvs (keyN z) with
  | none => exact ⟨fun q => (by cases q), fun q => absurd q (valV_not e)⟩
  | some v => exact ⟨fun _ => valV_in e, fun _ => rfl⟩
theorem KeysN.get {kvs : List (Key × V)} {ks : List Nat} (h : KeysN kvs ks) {i : Nat} {k : Key} {v : V} (e : kvs[i]? = some (k, v)) : ∃ n, ks[i]? = some n ∧ k = keyN n := by
  have q := congrArg (fun l => l[i]?) h.eq
  simp only [List.getElem?_map, e, Option.map_some] at q
  cases e2 : ks[i]? with
  | none => rw [e2] at q; cases q
  | some n => rw [e2] at q; exact ⟨n, rfl, Option.some.inj q⟩
theorem KeysN.put {kvs : List (Key × V)} {ks : List Nat} (h : KeysN kvs ks) (z : Nat) (v : V) : ∃ ks', KeysN (putK kvs (keyN z) v) ks' ∧ ∀ y, y ∈ ks' ↔ y ∈ ks ∨ y = z := by
  cases e : valV kvs (keyN z) with
  | none =>
    have hz : z ∉ ks := fun m => by
      have := (h.val z).mpr m
      rw [e] at this
      cases this
    refine ⟨ks ++ [z], ⟨?_, ?_⟩, fun y => ?_⟩
    · rw [putK_new v e, List.map_append, List.map_append, h.eq]
      rfl
    · exact nd_snoc h.nd hz
    · rw [List.mem_append, List.mem_singleton]
  | some u =>
    have hz : z ∈ ks := (h.val z).mp (by rw [e]; rfl)
    refine ⟨ks, ⟨?_, h.nd⟩, fun y => ⟨.inl, fun q => q.elim id fun q => by rw [q]; exact hz⟩⟩
    unfold putK
    rw [valV_any, e]
    rw [if_pos (by rfl), List.map_map, ← h.eq]
    refine List.map_congr_left fun kv _ => ?_
    show (if kv.1 = keyN z then (kv.1, v) else kv).1 = kv.1
    split <;> rfl
/-- the squares' remainders by p -/
def SqK (p : Nat) (kvs : List (Key × V)) : Prop := ∃ ks, KeysN kvs ks ∧ ∀ z, z ∈ ks ↔ z < p ∧ Kp297.kind p z = 1
theorem SqK.has {p : Nat} {kvs : List (Key × V)} (h : SqK p kvs) (z : Nat) (hz : z < p) : (valV kvs (Sum.inl (z : Int))).isSome = (Kp297.kind p z == 1) := by
  obtain ⟨ks, h1, h2⟩ := h
  rw [Bool.eq_iff_iff, beq_iff_eq]
  exact ((h1.val z).trans (h2 z)).trans ⟨fun q => q.2, fun q => ⟨hz, q⟩⟩
/-- the Ring at r, its squares at d, what is kept at l -/
structure RingAt (C : Addr) (H : Hp) (r d l : Addr) (p : Nat) (kept : List Nat) : Prop where
  ob : ∃ dx, H r = some (.ins C dx (rf p d l))
  sq : ∃ kvs, H d = some (.dK kvs) ∧ SqK p kvs
  kp : H l = some (.lst (nI kept))
theorem RingAt.same {C : Addr} {H H' : Hp} {r d l : Addr} {p : Nat} {kept : List Nat} (R : RingAt C H r d l p kept) (s : Same H H') : RingAt C H' r d l p kept := by
  obtain ⟨⟨dx, h1⟩, ⟨kvs, h2, h3⟩, h4⟩ := R
  exact ⟨⟨dx, s _ _ h1⟩, ⟨kvs, s _ _ h2, h3⟩, s _ _ h4⟩

/-! ### the text by places -/
def top (i : Nat) : Stmt := PySem.Challenge.pw_primering_s01_answers.main.body.getD i (.Pass ⟨0, 0, 0, 0⟩)
abbrev sInit : Stmt := inClass (top 12) 0
abbrev sPrime : Stmt := top 13
abbrev sSquares : Stmt := top 14
abbrev sLeadsTo : Stmt := top 15
abbrev sEachLeads : Stmt := top 16
abbrev sLeadsEach : Stmt := top 17
abbrev sLedBy : Stmt := top 18
abbrev sLeadingEach : Stmt := top 19
abbrev sLedByAny : Stmt := top 20
abbrev sOften : Stmt := top 21
abbrev sBothWays : Stmt := top 22
abbrev sPairs : Stmt := top 23
abbrev sGroupUpon : Stmt := top 24
abbrev sCounted : Stmt := top 25
abbrev sBegin : Stmt := top 26
abbrev sPut : Stmt := top 27
abbrev sTake : Stmt := top 28
abbrev sTellKept : Stmt := top 29
abbrev sMove : Stmt := top 30
abbrev sTimes : Stmt := top 31
abbrev sGrow : Stmt := top 32
abbrev sLeads : Stmt := top 33
abbrev sOf : Stmt := top 34
abbrev sCommon : Stmt := top 35
abbrev sInto : Stmt := top 36
abbrev sRounds : Stmt := top 37
abbrev sDiffer : Stmt := top 38
abbrev sWho : Stmt := top 39
abbrev sInner : Stmt := top 40
abbrev sGroup : Stmt := top 41
abbrev sGreatest : Stmt := top 42
abbrev sSteps : Stmt := top 43
abbrev sTold : Stmt := top 44
abbrev sAnswerOf : Stmt := top 46
abbrev sAnswers : Stmt := top 47

/-! ### what the top has written -/
structure Txt (K : PySem.W.Frag) (mg : Str → Option Value) (C : Addr) : Prop where
  cl : Cls K C
  nP : NoAttr K C "prime"
  nS : NoAttr K C "squares"
  nK : NoAttr K C "kept_points"
  mgC : mg "Ring" = some (.ref C)
  len : mg "len" = none
  range : mg "range" = none
  max : mg "max" = none
  enum : mg "enumerate" = none
  cNoPoint : ∃ t, mg "NO_SUCH_POINT" = some (.int (-2) t)
  cNotBegun : ∃ t, mg "NOT_BEGUN" = some (.int (-11) t)
  cKept : ∃ t, mg "ALREADY_KEPT" = some (.int (-17) t)
  cNotFit : ∃ t, mg "NOT_FIT" = some (.int (-22) t)
  cFull : ∃ t, mg "FULL" = some (.int (-28) t)
  cNobody : ∃ t, mg "NONE_THERE" = some (.int (-33) t)
  cEnd : ∃ t, mg "PRIMES_END" = some (.int 200 t)
  cMost : ∃ t, mg "MOST_KEPT" = some (.int 12 t)
  cBegin : ∃ t, mg "BEGIN" = some (.int 0 t)

section
variable {P : Program} {w : World} {K : PySem.W.Frag} {mg : Str → Option Value} {base : Heap}

/-! ### Ring() -/
def spInit (C : Addr) : Sp := fun vs H Q _ => ∃ (r dx : Addr), vs = [.ref r] ∧ H r = some (.ins C dx []) ∧ ∀ (H' : Hp) (d l : Addr), RingAt C H' r d l 0 [] → H d = none → H l = none → (∀ b o, H b = some o → b ≠ r → H' b = some o) → Q .non H'
theorem scInit : FnScope ["self"] ["self"] (defScope sInit) := ⟨rfl, rfl, rfl, by decide +kernel, rfl, by decide +kernel, by decide +kernel⟩
theorem ok_init {f C : Addr} {fd : FuncData} (F : Fun K "__init__" "Ring.__init__" sInit f fd) (T : Txt K mg C) : FnOk P w K mg base CX0 1 f fd ["self"] (spInit C) := by
  refine F.ok scInit (fun vs H Q E h => ?_) (fun cdv A outer s H vs Q E hr h => ?_)
  · obtain ⟨p, dx, rfl, _⟩ := h
    rfl
  · obtain ⟨r, dx, rfl, h0, k⟩ := h
    refine ⟨_, pss_cons (ps_fld (pv 0) pe_int rfl) (pss_cons (ps_fld (pv 0) pe_dnewK rfl) (pss_one (ps_fld (pv 0) (pe_lst pa_nil) rfl))), ?_⟩
    refine ⟨_, rfl, r, C, dx, [], rfl, h0, T.cl, T.nP, (by show 0 < 1000; decide), ?_⟩
    intro d hd
    have nrd : d ≠ r := fun e => by rw [e, upd_same] at hd; cases hd
    refine ⟨_, rfl, r, C, dx, _, rfl, (by rw [upd_ne (Ne.symm nrd)]; exact upd_same), T.cl, T.nS, (by show 1 < 1000; decide), ?_⟩
    refine ⟨Nat.zero_le _, fun l hl => ?_⟩
    have nrl : l ≠ r := fun e => by rw [e, upd_same] at hl; cases hl
    have ndl : l ≠ d := fun e => by rw [e, upd_ne nrd, upd_same] at hl; cases hl
    refine ⟨_, rfl, r, C, dx, _, rfl, (by rw [upd_ne (Ne.symm nrl)]; exact upd_same), T.cl, T.nK, (by show 2 < 1000; decide), ?_⟩
    refine k _ d l ⟨⟨dx, ?_⟩, ⟨[], ?_, [], .nil, fun z => ⟨fun h => (by cases h), fun h => absurd h.1 (Nat.not_lt_zero z)⟩⟩, ?_⟩ ?_ ?_ fun b o e hb => ?_
    · exact upd_same
    · rw [upd_ne nrd, upd_ne (Ne.symm ndl), upd_ne nrd, upd_same]
    · rw [upd_ne nrl, upd_same]
      rfl
    · rw [upd_ne nrd] at hd
      exact hd
    · rw [upd_ne nrl, upd_ne ndl, upd_ne nrl] at hl
      exact hl
    · have hd' : H d = none := by rw [upd_ne nrd] at hd; exact hd
      have hl' : H l = none := by rw [upd_ne nrl, upd_ne ndl, upd_ne nrl] at hl; exact hl
      rw [upd_ne hb, upd_ne (ne_of_none e hl'), upd_ne hb, upd_ne (ne_of_none e hd'), upd_ne hb]
      exact e

/-! ### leads_to -/
def spLeadsTo (C : Addr) : Sp := fun vs H Q _ => ∃ (r d l : Addr) (p : Nat) (kept : List Nat) (x y : Nat), vs = [.ref r, .int (x : Int), .int (y : Int)] ∧ RingAt C H r d l p kept ∧ x < p ∧ Q (.bl (Kp301.leads p x y)) H
theorem scLeadsTo : FnScope ["ring", "source", "target"] ["ring", "source", "target"] (defScope sLeadsTo) := ⟨rfl, rfl, rfl, by decide +kernel, rfl, by decide +kernel, by decide +kernel⟩
theorem ok_leadsTo {f C : Addr} {fd : FuncData} (F : Fun K "leads_to" "leads_to" sLeadsTo f fd) (T : Txt K mg C) : FnOk P w K mg base CX0 1 f fd ["ring", "source", "target"] (spLeadsTo C) := by
  refine F.ok scLeadsTo (fun vs H Q E h => ?_) (fun cdv A outer s H vs Q E hr h => ?_)
  · obtain ⟨r, d, l, p, kept, x, y, rfl, _⟩ := h
    rfl
  · obtain ⟨r, d, l, p, kept, x, y, rfl, ⟨⟨dx, h1⟩, ⟨kvs, h2, h3⟩, h4⟩, hx, q⟩ := h
    have hu := hu_of hr
    refine ⟨_, pss_one (ps_ret (pe_cmp (pc_din hu (pe_op op_mod (pe_op op_sub (pv 2) (pv 1)) (pe_fld (pv 0) rfl)) (pe_fld (pv 0) rfl)))), ?_⟩
    refine ⟨_, rfl, _, rfl, _, _, rfl, rfl, _, rfl, r, C, dx, _, _, rfl, h1, T.cl, T.nP, rf_p _ _ _, _, _, rfl, rfl, (by show (0 : Int) < (p : Int); omega), _, rfl, r, C, dx, _, _, rfl, h1, T.cl, T.nS, rf_s _ _ _, d, _, rfl, DGet.k (k := Sum.inl (((y : Int) - (x : Int)) % (p : Int))) h2, ?_⟩
    have hz : (y + p - x) % p < p := Nat.mod_lt _ (by omega)
    have e : (valV kvs (Sum.inl (((y : Int) - (x : Int)) % (p : Int)))).isSome = Kp301.leads p x y := by
      rw [leads_eq (by omega) (by omega), int_mod (by omega), Int.toNat_natCast]
      exact h3.has _ hz
    rw [e]
    exact q
end
end Px
set_option Elab.async false
set_option linter.all false
set_option maxRecDepth 100000
set_option maxHeartbeats 2000000
namespace Px
open PySem PySem.Spec PyProof.Rows L2
theorem take_snoc {α : Type} {l : List α} {i : Nat} {x : α} (h : l[i]? = some x) : l.take (i + 1) = l.take i ++ [x] := by
  rw [List.take_add_one, h]
  rfl
section
variable {P : Program} {w : World} {K : PySem.W.Frag} {mg : Str → Option Value} {base : Heap}
abbrev spRing : List Str := ["ring", "source", "target"]
/-! ### each_leads_to, leads_to_each -/
def spEachLeads (K : PySem.W.Frag) (C : Addr) : Sp := fun vs H Q _ => ∃ (r d l a : Addr) (p : Nat) (kept xs : List Nat) (y : Nat), vs = [.ref r, .ref a, .int (y : Int)] ∧ RingAt C H r d l p kept ∧ SqL K H a (nI xs) ∧ (∀ x ∈ xs, x < p) ∧
  Q (.bl (xs.all fun x => Kp301.leads p x y)) H
theorem scEachLeads : FnScope ["ring", "sources", "target", "source"] ["ring", "sources", "target"] (defScope sEachLeads) := ⟨rfl, rfl, rfl, by decide +kernel, rfl, by decide +kernel, by decide +kernel⟩
theorem ok_eachLeads {f C : Addr} {fd : FuncData} (F : Fun K "each_leads_to" "each_leads_to" sEachLeads f fd) (T : Txt K mg C) (D : Dfn P w K mg base 1 "leads_to" ["ring", "source", "target"] (spLeadsTo C)) :
    FnOk P w K mg base CX0 2 f fd ["ring", "sources", "target"] (spEachLeads K C) := by
  refine F.ok scEachLeads (fun vs H Q E h => ?_) (fun cdv A outer s H vs Q E hr h => ?_)
  · obtain ⟨r, d, l, a, p, kept, xs, y, rfl, _⟩ := h
    rfl
  · obtain ⟨r, d, l, a, p, kept, xs, y, rfl, R, hS, hx, q⟩ := h
    refine ⟨_, pss_cons (ps_for PassesOwn.never rfl (pi_list (pv 1)) (pg_name (i := 3) scEachLeads.nd rfl (Or.inl rfl))
      (pss_one (ps_if (pt_not (pt_val (pe_D D hr rfl (pa_cons (pv 0) (pa_cons (pv 3) (pa_cons (pv 2) pa_nil)))))) (pss_one (ps_ret pe_bl)) pss_nil))) (pss_one (ps_ret pe_bl)), ?_⟩
    refine ⟨_, rfl, a, rfl, ⟨_, hS⟩, for_list (K := K) (a := a) (xs := nI xs) (fun i σ H' => H' = H ∧ (∃ v, σ = [some (.ref r), some (.ref a), some (.int (y : Int)), v]) ∧ ∀ x ∈ xs.take i, Kp301.leads p x y = true)
      ⟨rfl, ⟨none, rfl⟩, fun x hx => by cases hx⟩ (fun i σ H' _ ⟨e, _⟩ => by rw [e]; exact hS) ?_ ?_⟩
    · rintro i z σ H' hi ⟨rfl, ⟨v, rfl⟩, hall⟩
      obtain ⟨n, hn, rfl⟩ := nI_get hi
      have hnp : n < p := hx n (List.mem_of_getElem? hn)
      refine ⟨_, rfl, _, rfl, _, rfl, r, d, l, p, kept, n, y, rfl, R, hnp, _, rfl, ?_⟩
      cases e : Kp301.leads p n y with
      | false =>
        refine iteT ?_
        have e2 : (xs.all fun x => Kp301.leads p x y) = false := by
          refine List.all_eq_false.mpr ⟨n, List.mem_of_getElem? hn, ?_⟩
          rw [e]
          exact Bool.false_ne_true
        rw [e2] at q
        exact q
      | true =>
        refine iteF ⟨rfl, ⟨_, rfl⟩, ?_⟩
        rw [take_snoc hn]
        intro x hxm
        rcases List.mem_append.mp hxm with h | h
        · exact hall x h
        · rw [List.mem_singleton.mp h]; exact e
    · rintro σ H' ⟨rfl, ⟨v, rfl⟩, hall⟩
      rw [nI_len, List.take_length] at hall
      have e2 : (xs.all fun x => Kp301.leads p x y) = true := List.all_eq_true.mpr hall
      rw [e2] at q
      exact q
def spLeadsEach (K : PySem.W.Frag) (C : Addr) : Sp := fun vs H Q _ => ∃ (r d l a : Addr) (p : Nat) (kept ys : List Nat) (x : Nat), vs = [.ref r, .int (x : Int), .ref a] ∧ RingAt C H r d l p kept ∧ SqL K H a (nI ys) ∧ x < p ∧
  Q (.bl (ys.all (Kp301.leads p x))) H
theorem scLeadsEach : FnScope ["ring", "source", "targets", "target"] ["ring", "source", "targets"] (defScope sLeadsEach) := ⟨rfl, rfl, rfl, by decide +kernel, rfl, by decide +kernel, by decide +kernel⟩
theorem ok_leadsEach {f C : Addr} {fd : FuncData} (F : Fun K "leads_to_each" "leads_to_each" sLeadsEach f fd) (T : Txt K mg C) (D : Dfn P w K mg base 1 "leads_to" ["ring", "source", "target"] (spLeadsTo C)) :
    FnOk P w K mg base CX0 2 f fd ["ring", "source", "targets"] (spLeadsEach K C) := by
  refine F.ok scLeadsEach (fun vs H Q E h => ?_) (fun cdv A outer s H vs Q E hr h => ?_)
  · obtain ⟨r, d, l, a, p, kept, xs, y, rfl, _⟩ := h
    rfl
  · obtain ⟨r, d, l, a, p, kept, ys, x, rfl, R, hS, hx, q⟩ := h
    refine ⟨_, pss_cons (ps_for PassesOwn.never rfl (pi_list (pv 2)) (pg_name (i := 3) scLeadsEach.nd rfl (Or.inl rfl))
      (pss_one (ps_if (pt_not (pt_val (pe_D D hr rfl (pa_cons (pv 0) (pa_cons (pv 1) (pa_cons (pv 3) pa_nil)))))) (pss_one (ps_ret pe_bl)) pss_nil))) (pss_one (ps_ret pe_bl)), ?_⟩
    refine ⟨_, rfl, a, rfl, ⟨_, hS⟩, for_list (K := K) (a := a) (xs := nI ys) (fun i σ H' => H' = H ∧ (∃ v, σ = [some (.ref r), some (.int (x : Int)), some (.ref a), v]) ∧ ∀ y ∈ ys.take i, Kp301.leads p x y = true)
      ⟨rfl, ⟨none, rfl⟩, fun x hx => by cases hx⟩ (fun i σ H' _ ⟨e, _⟩ => by rw [e]; exact hS) ?_ ?_⟩
    · rintro i z σ H' hi ⟨rfl, ⟨v, rfl⟩, hall⟩
      obtain ⟨n, hn, rfl⟩ := nI_get hi
      refine ⟨_, rfl, _, rfl, _, rfl, r, d, l, p, kept, x, n, rfl, R, hx, _, rfl, ?_⟩
      cases e : Kp301.leads p x n with
      | false =>
        refine iteT ?_
        have e2 : ys.all (Kp301.leads p x) = false := by
          refine List.all_eq_false.mpr ⟨n, List.mem_of_getElem? hn, ?_⟩
          rw [e]
          exact Bool.false_ne_true
        rw [e2] at q
        exact q
      | true =>
        refine iteF ⟨rfl, ⟨_, rfl⟩, ?_⟩
        rw [take_snoc hn]
        intro y hym
        rcases List.mem_append.mp hym with h | h
        · exact hall y h
        · rw [List.mem_singleton.mp h]; exact e
    · rintro σ H' ⟨rfl, ⟨v, rfl⟩, hall⟩
      rw [nI_len, List.take_length] at hall
      have e2 : ys.all (Kp301.leads p x) = true := List.all_eq_true.mpr hall
      rw [e2] at q
      exact q

/-! ### led_to_by_each, leading_to_each_kept: comprehensions -/
theorem range_filter_succ {f : Nat → Bool} (i : Nat) : (List.range (i + 1)).filter f = (List.range i).filter f ++ (if f i then [i] else []) := by
  rw [List.range_succ, List.filter_append, List.filter_cons, List.filter_nil]
theorem filter_len {f : Nat → Bool} (i : Nat) : ((List.range i).filter f).length ≤ i := Nat.le_trans (List.length_filter_le ..) (by rw [List.length_range]; exact Nat.le_refl _)
theorem nI_app (a b : List Nat) : nI (a ++ b) = nI a ++ nI b := List.map_append ..
def spLedBy (K : PySem.W.Frag) (C : Addr) : Sp := fun vs H Q _ => ∃ (r d l a : Addr) (p : Nat) (kept xs : List Nat), vs = [.ref r, .ref a] ∧ RingAt C H r d l p kept ∧ p < 200 ∧ SqL K H a (nI xs) ∧ (∀ x ∈ xs, x < p) ∧
  ∀ q, H q = none → Q (.ref q) (upd H q (.lst (nI ((List.range p).filter fun y => xs.all fun x => Kp301.leads p x y))))
theorem scLedBy : FnScope ["ring", "sources", "point"] ["ring", "sources"] (defScope sLedBy) := ⟨rfl, rfl, rfl, by decide +kernel, rfl, by decide +kernel, by decide +kernel⟩
theorem ok_ledBy {f C : Addr} {fd : FuncData} (F : Fun K "led_to_by_each" "led_to_by_each" sLedBy f fd) (T : Txt K mg C) (D : Dfn P w K mg base 2 "each_leads_to" ["ring", "sources", "target"] (spEachLeads K C)) :
    FnOk P w K mg base CX0 3 f fd ["ring", "sources"] (spLedBy K C) := by
  refine F.ok scLedBy (fun vs H Q E h => ?_) (fun cdv A outer s H vs Q E hr h => ?_)
  · obtain ⟨r, d, l, a, p, kept, xs, rfl, _⟩ := h
    rfl
  · obtain ⟨r, d, l, a, p, kept, xs, rfl, R, hp, hS, hx, k⟩ := h
    obtain ⟨dx, h1⟩ := R.ob
    refine ⟨_, pss_one (ps_ret (pe_lc rfl scLedBy.nd (pi_range1 rfl T.range (pa_cons (pe_fld (pv 0) rfl) pa_nil)) (blkOk_by (own := [("point", 2)]) (by show blkC ["ring", "sources", "point"] (defScope sLedBy) _ _ = true; decide +kernel))
      (fun _ _ _ _ _ => pg_name (i := 2) scLedBy.nd rfl (Or.inl rfl))
      (fun _ _ _ _ _ => pts_one (pt_val (pe_D D hr rfl (pa_cons (pv 0) (pa_cons (pv 1) (pa_cons (pv 2) pa_nil))))))
      (fun _ _ _ _ _ => pv 2))), ?_⟩
    refine ⟨_, rfl, r, C, dx, _, _, rfl, h1, T.cl, T.nP, rf_p _ _ _, (p : Int), rfl, by omega, by omega, ?_⟩
    intro D' hD
    have sm : ∀ xs', Same H (upd H D' (.lst xs')) := fun xs' b o e => by rw [upd_ne (ne_of_none e hD)]; exact e
    refine lc_range (lo := 0) (n := ((p : Int)).toNat) (fun i H' => H' = upd H D' (.lst (nI ((List.range i).filter fun y => xs.all fun x => Kp301.leads p x y)))) rfl ?_ ?_
    · rintro i H' hi rfl
      have hi : i < p := by rw [Int.toNat_natCast] at hi; exact hi
      refine ⟨rfl, _, rfl, _, rfl, _, rfl, r, d, l, a, p, kept, xs, i, (by show [V.ref r, V.ref a, V.int (0 + (i : Int))] = _; rw [Int.zero_add]), R.same (sm _), (sm _).seq hS, hx, _, rfl, ?_⟩
      cases e : xs.all fun x => Kp301.leads p x i with
      | false =>
        refine iteF ?_
        rw [range_filter_succ, e]
        simp
      | true =>
        refine iteT ⟨_, rfl, _, upd_same, ?_, ?_⟩
        · rw [nI_len]
          exact Nat.lt_of_le_of_lt (filter_len i) (Nat.lt_of_lt_of_le hi (Nat.le_trans (Nat.le_of_lt hp) (by decide)))
        · rw [upd_upd, range_filter_succ, e, nI_app]
          show upd H D' (.lst (_ ++ [V.int (0 + (i : Int))])) = _
          rw [Int.zero_add]
          rfl
    · rintro H' rfl
      rw [Int.toNat_natCast]
      exact k D' hD
end
end Px
set_option Elab.async false
set_option linter.all false
set_option maxRecDepth 100000
set_option maxHeartbeats 2000000
namespace Px
open PySem PySem.Spec PyProof.Rows L2
section
variable {P : Program} {w : World} {K : PySem.W.Frag} {mg : Str → Option Value} {base : Heap}
def spLeadingEach (K : PySem.W.Frag) (C : Addr) : Sp := fun vs H Q _ => ∃ (r d l a : Addr) (p : Nat) (kept ys : List Nat), vs = [.ref r, .ref a] ∧ RingAt C H r d l p kept ∧ p < 200 ∧ SqL K H a (nI ys) ∧
  ∀ q, H q = none → Q (.ref q) (upd H q (.lst (nI ((List.range p).filter fun z => ys.all (Kp301.leads p z)))))
theorem scLeadingEach : FnScope ["ring", "targets", "point"] ["ring", "targets"] (defScope sLeadingEach) := ⟨rfl, rfl, rfl, by decide +kernel, rfl, by decide +kernel, by decide +kernel⟩
theorem ok_leadingEach {f C : Addr} {fd : FuncData} (F : Fun K "leading_to_each" "leading_to_each" sLeadingEach f fd) (T : Txt K mg C) (D : Dfn P w K mg base 2 "leads_to_each" ["ring", "source", "targets"] (spLeadsEach K C)) :
    FnOk P w K mg base CX0 3 f fd ["ring", "targets"] (spLeadingEach K C) := by
  refine F.ok scLeadingEach (fun vs H Q E h => ?_) (fun cdv A outer s H vs Q E hr h => ?_)
  · obtain ⟨r, d, l, a, p, kept, ys, rfl, _⟩ := h
    rfl
  · obtain ⟨r, d, l, a, p, kept, ys, rfl, R, hp, hS, k⟩ := h
    obtain ⟨dx, h1⟩ := R.ob
    refine ⟨_, pss_one (ps_ret (pe_lc rfl scLeadingEach.nd (pi_range1 rfl T.range (pa_cons (pe_fld (pv 0) rfl) pa_nil)) (blkOk_by (own := [("point", 2)]) (by show blkC ["ring", "targets", "point"] (defScope sLeadingEach) _ _ = true; decide +kernel))
      (fun _ _ _ _ _ => pg_name (i := 2) scLeadingEach.nd rfl (Or.inl rfl))
      (fun _ _ _ _ _ => pts_one (pt_val (pe_D D hr rfl (pa_cons (pv 0) (pa_cons (pv 2) (pa_cons (pv 1) pa_nil))))))
      (fun _ _ _ _ _ => pv 2))), ?_⟩
    refine ⟨_, rfl, r, C, dx, _, _, rfl, h1, T.cl, T.nP, rf_p _ _ _, (p : Int), rfl, by omega, by omega, ?_⟩
    intro D' hD
    have sm : ∀ xs', Same H (upd H D' (.lst xs')) := fun xs' b o e => by rw [upd_ne (ne_of_none e hD)]; exact e
    refine lc_range (lo := 0) (n := ((p : Int)).toNat) (fun i H' => H' = upd H D' (.lst (nI ((List.range i).filter fun z => ys.all (Kp301.leads p z))))) rfl ?_ ?_
    · rintro i H' hi rfl
      have hi : i < p := by rw [Int.toNat_natCast] at hi; exact hi
      refine ⟨rfl, _, rfl, _, rfl, _, rfl, r, d, l, a, p, kept, ys, i, (by show [V.ref r, V.int (0 + (i : Int)), V.ref a] = _; rw [Int.zero_add]), R.same (sm _), (sm _).seq hS, hi, _, rfl, ?_⟩
      cases e : ys.all (Kp301.leads p i) with
      | false =>
        refine iteF ?_
        rw [range_filter_succ, e]
        simp
      | true =>
        refine iteT ⟨_, rfl, _, upd_same, ?_, ?_⟩
        · rw [nI_len]
          exact Nat.lt_of_le_of_lt (filter_len i) (Nat.lt_of_lt_of_le hi (Nat.le_trans (Nat.le_of_lt hp) (by decide)))
        · rw [upd_upd, range_filter_succ, e, nI_app]
          show upd H D' (.lst (_ ++ [V.int (0 + (i : Int))])) = _
          rw [Int.zero_add]
          rfl
    · rintro H' rfl
      rw [Int.toNat_natCast]
      exact k D' hD

/-! ### counted -/
def spCounted : Sp := fun vs H Q _ => ∃ (a : Addr) (xs : List Nat), vs = [.ref a] ∧ H a = some (.lst (nI xs)) ∧ xs.length ≤ 1000 ∧
  ∀ (H' : Hp) (q : Addr), Same H H' → H q = none → H' q = some (.lst (iI ((xs.length : Int) :: xs.map fun (n : Nat) => (n : Int)))) → Q (.ref q) H'
theorem scCounted : FnScope ["points"] ["points"] (defScope sCounted) := ⟨rfl, rfl, rfl, by decide +kernel, rfl, by decide +kernel, by decide +kernel⟩
theorem ok_counted {f C : Addr} {fd : FuncData} (F : Fun K "counted" "counted" sCounted f fd) (T : Txt K mg C) : FnOk P w K mg base CX0 1 f fd ["points"] spCounted := by
  refine F.ok scCounted (fun vs H Q E h => ?_) (fun cdv A outer s H vs Q E hr h => ?_)
  · obtain ⟨a, xs, rfl, _⟩ := h
    rfl
  · obtain ⟨a, xs, rfl, hS, hl, k⟩ := h
    refine ⟨_, pss_one (ps_ret (pe_op op_cat (pe_lst (pa_cons (pe_callB call_len_seq (by rfl) T.len PySem.boot_len (pa_cons (pv 0) pa_nil)) pa_nil)) (pv 0))), ?_⟩
    refine ⟨_, rfl, a, _, rfl, .inl (SqL.of hS), (by show 1 ≤ sizeLine; decide), fun l1 hl1 => ?_⟩
    have na : a ≠ l1 := ne_of_none hS hl1
    refine ⟨_, rfl, l1, a, _, _, rfl, rfl, upd_same, (by rw [upd_ne na]; exact hS), ?_, fun q hq => ?_⟩
    · rw [nI_len]
      exact Nat.le_trans (Nat.add_le_add_left hl 1) (by decide)
    · have nq : q ≠ l1 := fun e => by rw [e, upd_same] at hq; cases hq
      rw [upd_ne nq] at hq
      refine k _ q (fun b o e => ?_) hq ?_
      · rw [upd_ne (ne_of_none e hq), upd_ne (ne_of_none e hl1)]
        exact e
      · rw [upd_same, nI_len]
        show some (HO.lst (V.int (xs.length : Int) :: nI xs)) = some (HO.lst (V.int (xs.length : Int) :: iI (xs.map fun (n : Nat) => (n : Int))))
        unfold iI nI
        rw [List.map_map]
        rfl

/-! ### is_odd_prime_in_bounds -/
def spPrime : Sp := fun vs H Q _ => ∃ n : Nat, vs = [.int (n : Int)] ∧ Q (.bl (Kp301.okP n)) H
theorem scPrime : FnScope ["number", "divisor"] ["number"] (defScope sPrime) := ⟨rfl, rfl, rfl, by decide +kernel, rfl, by decide +kernel, by decide +kernel⟩
theorem ok_prime {f C : Addr} {fd : FuncData} (F : Fun K "is_odd_prime_in_bounds" "is_odd_prime_in_bounds" sPrime f fd) (T : Txt K mg C) : FnOk P w K mg base CX0 1 f fd ["number"] spPrime := by
  refine F.ok scPrime (fun vs H Q E h => ?_) (fun cdv A outer s H vs Q E hr h => ?_)
  · obtain ⟨n, rfl, _⟩ := h
    rfl
  · obtain ⟨n, rfl, q⟩ := h
    refine ⟨_, pss_cons (ps_if (PW.pt (pw_or (pt_cmpR op_lt (pv 0) pe_int (nomark _)) (pw_or1 (pt_cmpR op_ge (pv 0) (pe_gi T.cEnd rfl) (nomark _))))) (pss_one (ps_ret pe_bl)) pss_nil)
      (pss_cons (ps_for PassesOwn.never rfl (pi_range2 rfl T.range (pa_cons pe_int (pa_cons (pv 0) pa_nil))) (pg_name (i := 1) scPrime.nd rfl (Or.inl rfl))
        (pss_one (ps_if (pt_cmpR op_eq (pe_op op_mod (pv 0) (pv 1)) pe_int (nomark _)) (pss_one (ps_ret pe_bl)) pss_nil)))
      (pss_one (ps_ret pe_bl))), ?_⟩
    refine ⟨_, rfl, _, _, rfl, rfl, _, rfl, ite2 (fun h => iteT ?_) (fun h => ?_)⟩
    · have h3 : (n : Int) < 3 := of_decide_eq_true h
      have e : Kp301.okP n = false := Bool.eq_false_iff.mpr fun e => by have := (okP_lt e).1; omega
      rw [e] at q
      exact q
    refine ⟨_, rfl, _, _, rfl, rfl, _, rfl, ite2 (fun h2 => ?_) (fun h2 => ?_)⟩
    · have h3 : (200 : Int) ≤ (n : Int) := of_decide_eq_true h2
      have e : Kp301.okP n = false := Bool.eq_false_iff.mpr fun e => by have := (okP_lt e).2; omega
      rw [e] at q
      exact q
    have h3 : ¬ (n : Int) < 3 := fun z => h (decide_eq_true z)
    have h4 : ¬ (200 : Int) ≤ (n : Int) := fun z => h2 (decide_eq_true z)
    refine ⟨_, rfl, _, _, rfl, ⟨by decide, by decide, by omega, by omega⟩, ?_⟩
    refine for_range (lo := 2) (n := ((n : Int) - 2).toNat) (fun i σ H' => H' = H ∧ (∃ v, σ = [some (.int (n : Int)), v]) ∧ ∀ j : Nat, 2 ≤ j → j < i + 2 → n % j ≠ 0) ⟨rfl, ⟨none, rfl⟩, fun j h1 h2 => by omega⟩ ?_ ?_
    · rintro i σ H' hi ⟨rfl, ⟨v, rfl⟩, hall⟩
      refine ⟨_, rfl, _, rfl, _, _, rfl, rfl, (by show (0 : Int) < 2 + (i : Int); omega), rfl, _, rfl, ite2 (fun h => ?_) (fun h => ?_)⟩
      · have h5 : V.int ((n : Int) % (2 + (i : Int))) = V.int 0 := of_decide_eq_true h
        have h6 : (n : Int) % (2 + (i : Int)) = 0 := V.int.inj h5
        have h7 : n % (2 + i) = 0 := by
          have e8 : ((n % (2 + i) : Nat) : Int) = 0 := by rw [Int.natCast_emod]; exact h6
          exact Int.ofNat.inj e8
        have e : Kp301.okP n = false := Bool.eq_false_iff.mpr fun e => (okP_iff.mp e).2.2 (2 + i) (by omega) (by omega) h7
        rw [e] at q
        exact q
      · refine ⟨rfl, ⟨_, rfl⟩, fun j h1 h2 => ?_⟩
        by_cases hj : j = i + 2
        · subst hj
          intro h7
          have h6 : (n : Int) % (2 + (i : Int)) = 0 := by
            have : ((n % (i + 2) : Nat) : Int) = 0 := by rw [h7]; rfl
            rw [Int.natCast_emod] at this
            have e : ((i + 2 : Nat) : Int) = 2 + (i : Int) := by omega
            rw [e] at this
            exact this
          exact h (decide_eq_true (congrArg V.int h6))
        · exact hall j h1 (by omega)
    · rintro σ H' ⟨rfl, ⟨v, rfl⟩, hall⟩
      have e : Kp301.okP n = true := okP_iff.mpr ⟨by omega, by omega, fun d h1 h2 => hall d h1 (by omega)⟩
      rw [e] at q
      exact q
end
end Px
set_option Elab.async false
set_option linter.all false
set_option maxRecDepth 100000
set_option maxHeartbeats 2000000
namespace Px
open PySem PySem.Spec PyProof.Rows L2
/-! ### the state, and what a call's def is to reach -/
def StOk (st : Kp301.State) (p : Nat) (kept : List Nat) : Prop := (st = none ∧ p = 0 ∧ kept = []) ∨ (st = some ⟨p, kept⟩ ∧ Good p kept)
/-- behind a call: the object stands for the specification's state, the new list at q for its answer; nothing else has changed -/
structure Done (C : Addr) (H : Hp) (r l : Addr) (y : Kp301.State × Kp301.Ans) (H' : Hp) (q : Addr) : Prop where
  ring : ∃ d' l' p' kept', StOk y.1 p' kept' ∧ RingAt C H' r d' l' p' kept' ∧ (l' = l ∨ H l' = none)
  keep : ∀ b o, H b = some o → b ≠ r → b ≠ l → H' b = some o
  new : H q = none
  ans : H' q = some (.lst (iI (y.2.num :: y.2.nums)))
theorem done_same {C : Addr} {H H' : Hp} {r d l q : Addr} {p : Nat} {kept : List Nat} {st : Kp301.State} {y : Kp301.State × Kp301.Ans} (hst : y.1 = st) (S : StOk st p kept) (R : RingAt C H r d l p kept) (sm : Same H H') (hq : H q = none)
    (ha : H' q = some (.lst (iI (y.2.num :: y.2.nums)))) : Done C H r l y H' q :=
  ⟨⟨d, l, p, kept, by rw [hst]; exact S, R.same sm, .inl rfl⟩, fun b o e _ _ => sm b o e, hq, ha⟩
theorem same_upd {H : Hp} {q : Addr} {o : HO} (hq : H q = none) : Same H (upd H q o) := fun b u e => by rw [upd_ne (ne_of_none e hq)]; exact e
/-- a call's def by its promise: of a state, arguments gs for which A holds, it does the specification's step of the call c gs -/
def spH (C : Addr) (A : Nat → List Nat → List Nat → Prop) (c : List Nat → Kp301.Call) : Sp := fun vs H Q _ => ∃ (r d l g : Addr) (p : Nat) (kept gs : List Nat) (st : Kp301.State), vs = [.ref r, .ref g] ∧ RingAt C H r d l p kept ∧ StOk st p kept ∧
  H g = some (.lst (nI gs)) ∧ A p kept gs ∧ ∀ (H' : Hp) (q : Addr), Done C H r l (Kp301.step st (c gs)) H' q → Q (.ref q) H'
theorem spH_len {C : Addr} {A : Nat → List Nat → List Nat → Prop} {c : List Nat → Kp301.Call} : ∀ vs H Q E, spH C A c vs H Q E → vs.length = (["ring", "given"] : List Str).length := fun vs H Q E h => by
  obtain ⟨r, d, l, g, p, kept, gs, st, rfl, _⟩ := h
  rfl
theorem StOk.some_of {st : Kp301.State} {p : Nat} {kept : List Nat} (S : StOk st p kept) (hp : p ≠ 0) : st = some ⟨p, kept⟩ ∧ Good p kept := by
  rcases S with ⟨_, h, _⟩ | h
  · exact absurd h hp
  · exact h
theorem nI_map (l : List Nat) : nI l = (l.map fun (n : Nat) => (n : Int)).map V.int := by unfold nI; rw [List.map_map]; rfl
theorem iI_tell (n : Int) (l : List Nat) : iI (n :: l.map fun (x : Nat) => (x : Int)) = V.int n :: nI l := by unfold iI; rw [List.map_cons, nI_map]
section
variable {P : Program} {w : World} {K : PySem.W.Frag} {mg : Str → Option Value} {base : Heap}

/-! ### squares_left_by -/
def spSquares : Sp := fun vs H Q _ => ∃ p : Nat, vs = [.int (p : Int)] ∧ Kp301.okP p = true ∧ ∀ (q : Addr) (kvs : List (Key × V)), H q = none → SqK p kvs → Q (.ref q) (upd H q (.dK kvs))
theorem scSquares : FnScope ["prime", "squares", "number"] ["prime"] (defScope sSquares) := ⟨rfl, rfl, rfl, by decide +kernel, rfl, by decide +kernel, by decide +kernel⟩
theorem ok_squares {f C : Addr} {fd : FuncData} (F : Fun K "squares_left_by" "squares_left_by" sSquares f fd) (T : Txt K mg C) : FnOk P w K mg base CX0 1 f fd ["prime"] spSquares := by
  refine F.ok scSquares (fun vs H Q E h => ?_) (fun cdv A outer s H vs Q E hr h => ?_)
  · obtain ⟨n, rfl, _⟩ := h
    rfl
  · obtain ⟨p, rfl, hp, k⟩ := h
    have hu := hu_of hr
    obtain ⟨h3, h200⟩ := okP_lt hp
    refine ⟨_, pss_cons (ps_set (i := 1) scSquares.nd rfl (Or.inl rfl) pe_dnewK)
      (pss_cons (ps_for PassesOwn.never rfl (pi_range2 rfl T.range (pa_cons pe_int (pa_cons (pv 0) pa_nil))) (pg_name (i := 2) scSquares.nd rfl (Or.inl rfl))
        (pss_one (ps_dput hu (pv 1) (pe_op op_mod (pe_op op_mul (pv 2) (pv 2)) (pv 0)) pe_bl rfl)))
      (pss_one (ps_ret (pv 1)))), ?_⟩
    intro q hq
    refine ⟨_, rfl, _, _, rfl, ⟨by decide, by decide, by omega, by omega⟩, ?_⟩
    refine for_range (lo := 1) (n := ((p : Int) - 1).toNat) (fun i σ H' => (∃ v, σ = [some (.int (p : Int)), some (.ref q), v]) ∧ ∃ kvs ks, H' = upd H q (.dK kvs) ∧ kvs.length ≤ i ∧ KeysN kvs ks ∧ ∀ z : Nat, z ∈ ks ↔ ∃ n : Nat, 1 ≤ n ∧ n < i + 1 ∧ n * n % p = z)
      ⟨⟨none, rfl⟩, [], [], rfl, Nat.le_refl _, .nil, fun z => ⟨fun h => (by cases h), fun ⟨n, h1, h2, _⟩ => (by omega)⟩⟩ ?_ ?_
    · rintro i σ H' hi ⟨⟨v, rfl⟩, kvs, ks, rfl, hl, hk, hz⟩
      have e : (1 + (i : Int)) * (1 + (i : Int)) % (p : Int) = (((1 + i) * (1 + i) % p : Nat) : Int) := by
        rw [Int.natCast_emod, Int.natCast_mul, Int.natCast_add]
        rfl
      refine ⟨_, rfl, _, rfl, _, rfl, _, _, rfl, rfl, .inl ⟨by show -(2 ^ 64) < (1 : Int) + (i : Int); omega, by show (1 : Int) + (i : Int) < 2 ^ 64; omega⟩, _, rfl, _, _, rfl, rfl, (by show (0 : Int) < (p : Int); omega), q, upd (upd H q (.dK kvs)) q (.dK (putK kvs (keyN ((1 + i) * (1 + i) % p)) (.bl true))), rfl, ?_, ?_⟩
      · show DPut _ q (V.int ((1 + (i : Int)) * (1 + (i : Int)) % (p : Int))) _ _
        rw [e]
        exact DPut.k (k := keyN ((1 + i) * (1 + i) % p)) upd_same (Nat.lt_of_le_of_lt hl (Nat.lt_of_lt_of_le (show i < 200 by omega) (by decide)))
      · obtain ⟨ks', hk', hm⟩ := hk.put ((1 + i) * (1 + i) % p) (.bl true)
        refine ⟨⟨_, rfl⟩, _, ks', upd_upd, Nat.le_trans (length_putK ..) (by omega), hk', fun z => ?_⟩
        rw [hm, hz]
        constructor
        · rintro (⟨n, h1, h2, h4⟩ | e2)
          · exact ⟨n, h1, by omega, h4⟩
          · exact ⟨1 + i, by omega, by omega, e2.symm⟩
        · rintro ⟨n, h1, h2, h4⟩
          by_cases hn : n = 1 + i
          · subst hn
            exact .inr h4.symm
          · exact .inl ⟨n, h1, by omega, h4⟩
    · rintro σ H' ⟨⟨v, rfl⟩, kvs, ks, rfl, hl, hk, hz⟩
      refine ⟨_, rfl, k q kvs hq ⟨ks, hk, fun z => ?_⟩⟩
      rw [hz]
      constructor
      · rintro ⟨n, h1, h2, h4⟩
        have hzp : z < p := by rw [← h4]; exact Nat.mod_lt _ (by omega)
        exact ⟨hzp, (sq_iff hp hzp).mp ⟨n, h1, by omega, h4⟩⟩
      · rintro ⟨hzp, h4⟩
        obtain ⟨n, h1, h2, h5⟩ := (sq_iff hp hzp).mpr h4
        exact ⟨n, h1, by omega, h5⟩

/-! ### begin -/
abbrev rg : List Str := ["ring", "given"]
theorem scBegin : FnScope ["ring", "given", "prime"] ["ring", "given"] (defScope sBegin) := ⟨rfl, rfl, rfl, by decide +kernel, rfl, by decide +kernel, by decide +kernel⟩
def spBegin (C : Addr) : Sp := spH C (fun _ _ gs => ∃ x, gs = [x]) fun gs => .begin_ (gs.headD 0)
theorem ok_begin {f C : Addr} {fd : FuncData} (F : Fun K "begin" "begin" sBegin f fd) (T : Txt K mg C) (DP : Dfn P w K mg base 1 "is_odd_prime_in_bounds" ["number"] spPrime) (DS : Dfn P w K mg base 1 "squares_left_by" ["prime"] spSquares) :
    FnOk P w K mg base CX0 2 f fd ["ring", "given"] (spBegin C) := by
  refine F.ok scBegin spH_len (fun cdv A outer s H vs Q E hr h => ?_)
  obtain ⟨r, d, l, g, p, kept, gs, st, rfl, R, S, hg, ⟨x, rfl⟩, k⟩ := h
  obtain ⟨dx, h1⟩ := R.ob
  refine ⟨_, pss_cons (ps_set (i := 2) scBegin.nd rfl (Or.inl rfl) (pe_ix ix_list (pv 1) pe_int (fun _ _ => rfl)))
    (pss_cons (ps_if (pt_not (pt_val (pe_D DP hr rfl (pa_cons (pv 2) pa_nil)))) (pss_one (ps_ret (pe_lst (pa_cons (pe_gi T.cNotFit rfl) pa_nil)))) pss_nil)
    (pss_cons (ps_fld (pv 0) (pv 2) rfl)
    (pss_cons (ps_fld (pv 0) (pe_D DS hr rfl (pa_cons (pv 2) pa_nil)) rfl)
    (pss_cons (ps_fld (pv 0) (pe_lst pa_nil) rfl)
    (pss_one (ps_ret (pe_lst (pa_cons pe_int pa_nil)))))))), ?_⟩
  refine ⟨_, rfl, g, _, _, _, rfl, rfl, SqL.of hg, at_of (j := 0) (v := V.int (x : Int)) rfl rfl, _, rfl, x, rfl, _, rfl, ?_⟩
  cases hx : Kp301.okP x with
  | false =>
    refine iteT ⟨(by show 1 ≤ sizeLine; decide), fun q hq => k _ q (done_same (st := st) ?_ S R (same_upd hq) hq ?_)⟩
    · show (Kp301.step st (.begin_ x)).1 = st
      unfold Kp301.step
      simp only [hx, if_true]
    · rw [upd_same]
      show _ = some (HO.lst (iI ((Kp301.step st (.begin_ x)).2.num :: (Kp301.step st (.begin_ x)).2.nums)))
      unfold Kp301.step
      simp only [hx, if_true]
      rfl
  | true =>
    refine iteF ?_
    refine ⟨_, rfl, _, rfl, r, C, dx, _, rfl, h1, T.cl, T.nP, (by show 3 < 1000; decide), ?_⟩
    rw [rf_pp]
    refine ⟨_, rfl, x, rfl, hx, fun d' kvs hd' hkv => ?_⟩
    have nd : d' ≠ r := fun e => by rw [e, upd_same] at hd'; cases hd'
    refine ⟨_, rfl, r, C, dx, _, rfl, (by rw [upd_ne (Ne.symm nd)]; exact upd_same), T.cl, T.nS, (by show 3 < 1000; decide), ?_⟩
    rw [rf_ps]
    refine ⟨Nat.zero_le _, fun l' hl' => ?_⟩
    have nl : l' ≠ r := fun e => by rw [e, upd_same] at hl'; cases hl'
    have nld : l' ≠ d' := fun e => by rw [e, upd_ne nd, upd_same] at hl'; cases hl'
    refine ⟨_, rfl, r, C, dx, _, rfl, (by rw [upd_ne (Ne.symm nl)]; exact upd_same), T.cl, T.nK, (by show 3 < 1000; decide), ?_⟩
    rw [rf_pk]
    refine ⟨(by show 1 ≤ sizeLine; decide), fun q hq => ?_⟩
    have nq : q ≠ r := fun e => by rw [e, upd_same] at hq; cases hq
    have nql : q ≠ l' := fun e => by rw [e, upd_ne nl, upd_same] at hq; cases hq
    have nqd : q ≠ d' := fun e => by rw [e, upd_ne nd, upd_ne (Ne.symm nld), upd_ne nd, upd_same] at hq; cases hq
    have hd0 : H d' = none := by rw [upd_ne nd] at hd'; exact hd'
    have hl0 : H l' = none := by rw [upd_ne nl, upd_ne nld, upd_ne nl] at hl'; exact hl'
    have hq0 : H q = none := by rw [upd_ne nq, upd_ne nql, upd_ne nq, upd_ne nqd, upd_ne nq] at hq; exact hq
    have e1 : Kp301.step st (.begin_ x) = (some ⟨x, []⟩, Kp301.say 0) := by
      unfold Kp301.step
      simp only [hx, Bool.true_eq_false, if_false]
    refine k _ q ⟨⟨d', l', x, [], ?_, ⟨⟨dx, ?_⟩, ⟨kvs, ?_, hkv⟩, ?_⟩, .inr hl0⟩, fun b o e hbr hbl => ?_, hq0, ?_⟩
    · show StOk (Kp301.step st (.begin_ x)).1 x []
      rw [e1]
      exact .inr ⟨rfl, .nil hx⟩
    · rw [upd_ne (Ne.symm nq), upd_same]
    · rw [upd_ne (Ne.symm nqd), upd_ne nd, upd_ne (Ne.symm nld), upd_ne nd, upd_same]
    · rw [upd_ne (Ne.symm nql), upd_ne nl, upd_same]
      rfl
    · rw [upd_ne (ne_of_none e hq0), upd_ne hbr, upd_ne (ne_of_none e hl0), upd_ne hbr, upd_ne (ne_of_none e hd0), upd_ne hbr]
      exact e
    · rw [upd_same]
      show _ = some (HO.lst (iI ((Kp301.step st (.begin_ x)).2.num :: (Kp301.step st (.begin_ x)).2.nums)))
      rw [e1]
      rfl
end
end Px
set_option Elab.async false
set_option linter.all false
set_option maxRecDepth 100000
set_option maxHeartbeats 2000000
namespace Px
open PySem PySem.Spec PyProof.Rows L2
theorem inV_nat (x : Nat) : ∀ l : List Nat, inV (.int (x : Int)) (nI l) = l.contains x
  | [] => rfl
  | a :: l => by
    have ih := inV_nat x l
    have e : ((a : Int) == (x : Int)) = (x == a) := by
      rw [Bool.eq_iff_iff, beq_iff_eq, beq_iff_eq]
      omega
    show (((a : Int) == (x : Int)) || inV (.int (x : Int)) (nI l)) = (a :: l).contains x
    rw [ih, e, List.contains_cons]
theorem flat_nI : ∀ l : List Nat, (nI l).all flatV = true
  | [] => rfl
  | a :: l => flat_nI l
theorem step_some {p : Nat} {kept : List Nat} {c : Kp301.Call} {st : Kp301.State} (h : st = some ⟨p, kept⟩) : Kp301.step st c = Kp301.step (some ⟨p, kept⟩) c := by rw [h]
section
variable {P : Program} {w : World} {K : PySem.W.Frag} {mg : Str → Option Value} {base : Heap}
/-- what the defs of points are handed: of a begun object -/
def A1 (p : Nat) (_ gs : List Nat) : Prop := p ≠ 0 ∧ ∃ x, gs = [x] ∧ x < p
def A1' (p : Nat) (_ gs : List Nat) : Prop := p ≠ 0 ∧ ∃ x, gs = [x]
def A2 (p : Nat) (_ gs : List Nat) : Prop := p ≠ 0 ∧ ∃ x y, gs = [x, y] ∧ x < p ∧ y < p
def A0 (p : Nat) (_ gs : List Nat) : Prop := p ≠ 0 ∧ gs = []
/-- the end of a refusal, or of any answer that changes nothing -/
theorem finish {C : Addr} {H H' : Hp} {r d l q : Addr} {p : Nat} {kept : List Nat} {st : Kp301.State} {y : Kp301.State × Kp301.Ans} {v : Int} {m : List Int} (S : StOk st p kept) (R : RingAt C H r d l p kept) (e : y = (st, ⟨v, m⟩)) (sm : Same H H') (hq : H q = none)
    (ha : H' q = some (.lst (V.int v :: iI m))) : Done C H r l y H' q := done_same (by rw [e]) S R sm hq (by rw [e]; exact ha)

/-! ### put -/
theorem scPut : FnScope ["ring", "given", "point"] ["ring", "given"] (defScope sPut) := ⟨rfl, rfl, rfl, by decide +kernel, rfl, by decide +kernel, by decide +kernel⟩
def spPut (C : Addr) : Sp := spH C A1 fun gs => .put (gs.headD 0)
theorem ok_put {f C : Addr} {fd : FuncData} (F : Fun K "put" "put" sPut f fd) (T : Txt K mg C) : FnOk P w K mg base CX0 1 f fd ["ring", "given"] (spPut C) := by
  refine F.ok scPut spH_len (fun cdv A outer s H vs Q E hr h => ?_)
  obtain ⟨r, d, l, g, p, kept, gs, st, rfl, R, S, hg, ⟨hp, x, rfl, hx⟩, k⟩ := h
  obtain ⟨dx, h1⟩ := R.ob
  obtain ⟨hst, G⟩ := S.some_of hp
  have k : ∀ (H' : Hp) (q : Addr), Done C H r l (Kp301.step st (.put x)) H' q → Q (.ref q) H' := k
  refine ⟨_, pss_cons (ps_set (i := 2) scPut.nd rfl (Or.inl rfl) (pe_ix ix_list (pv 1) pe_int (fun _ _ => rfl)))
    (pss_cons (ps_if (pt_cmpR op_in_seq (pv 2) (pe_fld (pv 0) rfl) rfl) (pss_one (ps_ret (pe_lst (pa_cons (pe_gi T.cKept rfl) pa_nil)))) pss_nil)
    (pss_cons (ps_if (pt_cmpR op_eq (pe_callB call_len_seq (by rfl) T.len PySem.boot_len (pa_cons (pe_fld (pv 0) rfl) pa_nil)) (pe_gi T.cMost rfl) (nomark _)) (pss_one (ps_ret (pe_lst (pa_cons (pe_gi T.cFull rfl) pa_nil)))) pss_nil)
    (pss_cons (ps_expr (pe_bm PySem.F.plainAttrs_list PySem.F.slot_list_append PySem.F.type_list_append mt_append (pe_fld (pv 0) rfl) (pa_cons (pv 2) pa_nil)))
    (pss_one (ps_ret (pe_lst (pa_cons (pe_callB call_len_seq (by rfl) T.len PySem.boot_len (pa_cons (pe_fld (pv 0) rfl) pa_nil)) pa_nil))))))), ?_⟩
  refine ⟨_, rfl, g, _, _, _, rfl, rfl, SqL.of hg, at_of (j := 0) (v := V.int (x : Int)) rfl rfl, _, rfl, _, rfl, r, C, dx, _, _, rfl, h1, T.cl, T.nK, rf_k _ _ _, l, _, rfl, .inl (SqL.of R.kp), rfl, flat_nI _, _, rfl, ?_⟩
  have e0 : (if false = true then !inV (V.int (x : Int)) (nI kept) else inV (V.int (x : Int)) (nI kept)) = kept.contains x := inV_nat x kept
  rw [e0]
  have hxp : ¬ p ≤ x := by omega
  cases hc : kept.contains x with
  | true =>
    refine iteT ⟨(by show 1 ≤ sizeLine; decide), fun q hq => k _ q (finish S R (v := -17) (m := []) ?_ (same_upd hq) hq upd_same)⟩
    rw [hst]
    unfold Kp301.step
    simp only [hxp, hc, if_true, if_false]
    rfl
  | false =>
    refine iteF ?_
    refine ⟨_, rfl, r, C, dx, _, _, rfl, h1, T.cl, T.nK, rf_k _ _ _, l, _, rfl, .inl (SqL.of R.kp), rfl, _, rfl, ite2 (fun h => ?_) (fun h => ?_)⟩
    · have hl : ((nI kept).length : Int) = 12 := V.int.inj (of_decide_eq_true h)
      rw [nI_len] at hl
      have hK : Kp301.KEPT ≤ kept.length := by show 12 ≤ kept.length; omega
      refine ⟨(by show 1 ≤ sizeLine; decide), fun q hq => k _ q (finish S R (v := -28) (m := []) ?_ (same_upd hq) hq upd_same)⟩
      rw [hst]
      unfold Kp301.step
      simp only [hxp, hc, hK, if_true, if_false]
      rfl
    · have hl : ¬ kept.length = 12 := fun e => h (decide_eq_true (by show V.int ((nI kept).length : Int) = V.int 12; rw [nI_len, e]; rfl))
      have hlen := G.len
      have hK : ¬ Kp301.KEPT ≤ kept.length := by show ¬ 12 ≤ kept.length; omega
      refine ⟨_, rfl, r, C, dx, _, _, rfl, h1, T.cl, T.nK, rf_k _ _ _, .inl ⟨rfl, _, SqL.of R.kp⟩, _, rfl, l, _, _, rfl, rfl, R.kp, (by rw [nI_len]; exact Nat.lt_of_le_of_lt G.len (by decide)), ?_⟩
      have nrl : r ≠ l := ne_of h1 R.kp (by intro z; cases z)
      have e2 : nI kept ++ [V.int (x : Int)] = nI (kept ++ [x]) := (nI_app kept [x]).symm
      refine ⟨_, rfl, r, C, dx, _, _, rfl, (by rw [upd_ne nrl]; exact h1), T.cl, T.nK, rf_k _ _ _, l, _, rfl, .inl (SqL.of upd_same), (by show 1 ≤ sizeLine; decide), fun q hq => ?_⟩
      have nql : q ≠ l := fun e => by rw [e, upd_same] at hq; cases hq
      rw [upd_ne nql] at hq
      have e1 : Kp301.step st (.put x) = (some ⟨p, kept ++ [x]⟩, Kp301.say ((kept.length + 1 : Nat) : Int)) := by
        rw [hst]
        unfold Kp301.step
        simp only [hxp, hc, hK, if_false]
        rfl
      obtain ⟨kvs, h2, h3⟩ := R.sq
      have ndl : d ≠ l := ne_of h2 R.kp (by intro z; cases z)
      have hnx : x ∉ kept := fun m => by
        have : kept.contains x = true := by simpa using m
        rw [hc] at this
        cases this
      refine k _ q ⟨⟨d, l, p, kept ++ [x], ?_, ⟨⟨dx, ?_⟩, ⟨kvs, ?_, h3⟩, ?_⟩, .inl rfl⟩, fun b o e hbr hbl => ?_, hq, ?_⟩
      · rw [e1]
        exact .inr ⟨rfl, G.snoc hx hnx (by omega)⟩
      · rw [upd_ne (ne_of_none h1 hq), upd_ne nrl]
        exact h1
      · rw [upd_ne (ne_of_none h2 hq), upd_ne ndl]
        exact h2
      · rw [upd_ne (Ne.symm nql), upd_same, e2]
      · rw [upd_ne (ne_of_none e hq), upd_ne hbl]
        exact e
      · rw [upd_same, e1]
        show some (HO.lst [V.int ((nI kept ++ [V.int (x : Int)]).length : Int)]) = some (HO.lst [V.int ((kept.length + 1 : Nat) : Int)])
        rw [e2, nI_len, List.length_append, List.length_singleton]

/-! ### take -/
theorem scTake : FnScope ["ring", "given", "point"] ["ring", "given"] (defScope sTake) := ⟨rfl, rfl, rfl, by decide +kernel, rfl, by decide +kernel, by decide +kernel⟩
def spTake (C : Addr) : Sp := spH C A1' fun gs => .take (gs.headD 0)
theorem ok_take {f C : Addr} {fd : FuncData} (F : Fun K "take" "take" sTake f fd) (T : Txt K mg C) : FnOk P w K mg base CX0 1 f fd ["ring", "given"] (spTake C) := by
  refine F.ok scTake spH_len (fun cdv A outer s H vs Q E hr h => ?_)
  obtain ⟨r, d, l, g, p, kept, gs, st, rfl, R, S, hg, ⟨hp, x, rfl⟩, k⟩ := h
  obtain ⟨dx, h1⟩ := R.ob
  obtain ⟨hst, G⟩ := S.some_of hp
  have k : ∀ (H' : Hp) (q : Addr), Done C H r l (Kp301.step st (.take x)) H' q → Q (.ref q) H' := k
  refine ⟨_, pss_cons (ps_set (i := 2) scTake.nd rfl (Or.inl rfl) (pe_ix ix_list (pv 1) pe_int (fun _ _ => rfl)))
    (pss_cons (ps_if (pt_cmpR op_notIn_seq (pv 2) (pe_fld (pv 0) rfl) rfl) (pss_one (ps_ret (pe_lst (pa_cons (pe_gi T.cNoPoint rfl) pa_nil)))) pss_nil)
    (pss_cons (ps_expr (pe_bm PySem.F.plainAttrs_list PySem.F.slot_list_remove PySem.F.type_list_remove mt_remove (pe_fld (pv 0) rfl) (pa_cons (pv 2) pa_nil)))
    (pss_one (ps_ret (pe_lst (pa_cons (pe_callB call_len_seq (by rfl) T.len PySem.boot_len (pa_cons (pe_fld (pv 0) rfl) pa_nil)) pa_nil)))))), ?_⟩
  refine ⟨_, rfl, g, _, _, _, rfl, rfl, SqL.of hg, at_of (j := 0) (v := V.int (x : Int)) rfl rfl, _, rfl, _, rfl, r, C, dx, _, _, rfl, h1, T.cl, T.nK, rf_k _ _ _, l, _, rfl, .inl (SqL.of R.kp), rfl, flat_nI _, _, rfl, ?_⟩
  have e0 : (if true = true then !inV (V.int (x : Int)) (nI kept) else inV (V.int (x : Int)) (nI kept)) = !kept.contains x := by rw [if_pos rfl, inV_nat x kept]
  rw [e0]
  cases hc : kept.contains x with
  | false =>
    refine iteT ⟨(by show 1 ≤ sizeLine; decide), fun q hq => k _ q (finish S R (v := -2) (m := []) ?_ (same_upd hq) hq upd_same)⟩
    rw [hst]
    unfold Kp301.step
    simp only [hc, if_true]
    rfl
  | true =>
    refine iteF ?_
    have hm : x ∈ kept := by simpa using hc
    obtain ⟨j, hj, hno⟩ := first_at hm
    have hkp : H l = some (.lst ((kept.map fun (n : Nat) => (n : Int)).map V.int)) := by rw [← nI_map]; exact R.kp
    refine ⟨_, rfl, r, C, dx, _, _, rfl, h1, T.cl, T.nK, rf_k _ _ _, .inl ⟨rfl, _, SqL.of R.kp⟩, _, rfl, l, _, (x : Int), j, rfl, rfl, hkp, (by rw [List.getElem?_map, hj]; rfl), fun m hmj e => ?_, ?_⟩
    · rw [List.getElem?_map] at e
      cases q : kept[m]? with
      | none => rw [q] at e; cases e
      | some n =>
        rw [q] at e
        have e3 : (n : Int) = (x : Int) := Option.some.inj e
        exact hno m hmj (by rw [q, Int.ofNat.inj e3])
    · have nrl : r ≠ l := ne_of h1 R.kp (by intro z; cases z)
      have e2 : (((kept.map fun (n : Nat) => (n : Int)).eraseIdx j).map V.int) = nI (kept.filter fun y => y != x) := by
        rw [erase_map, ← nI_map, erase_filter G.nd hj]
      refine ⟨_, rfl, r, C, dx, _, _, rfl, (by rw [upd_ne nrl]; exact h1), T.cl, T.nK, rf_k _ _ _, l, _, rfl, .inl (SqL.of upd_same), (by show 1 ≤ sizeLine; decide), fun q hq => ?_⟩
      have nql : q ≠ l := fun e => by rw [e, upd_same] at hq; cases hq
      rw [upd_ne nql] at hq
      have e1 : Kp301.step st (.take x) = (some ⟨p, kept.filter fun y => y != x⟩, Kp301.say ((kept.length - 1 : Nat) : Int)) := by
        rw [hst]
        unfold Kp301.step
        simp only [hc, Bool.true_eq_false, if_false]
      obtain ⟨kvs, h2, h3⟩ := R.sq
      have ndl : d ≠ l := ne_of h2 R.kp (by intro z; cases z)
      refine k _ q ⟨⟨d, l, p, kept.filter fun y => y != x, ?_, ⟨⟨dx, ?_⟩, ⟨kvs, ?_, h3⟩, ?_⟩, .inl rfl⟩, fun b o e hbr hbl => ?_, hq, ?_⟩
      · rw [e1]
        exact .inr ⟨rfl, G.filter _⟩
      · rw [upd_ne (ne_of_none h1 hq), upd_ne nrl]
        exact h1
      · rw [upd_ne (ne_of_none h2 hq), upd_ne ndl]
        exact h2
      · rw [upd_ne (Ne.symm nql), upd_same, e2]
      · rw [upd_ne (ne_of_none e hq), upd_ne hbl]
        exact e
      · rw [upd_same, e1, e2, nI_len, ← erase_filter G.nd hj, erase_len hj]
        rfl
end
end Px
set_option Elab.async false
set_option linter.all false
set_option maxRecDepth 100000
set_option maxHeartbeats 2000000
namespace Px
open PySem PySem.Spec PyProof.Rows L2
theorem yes_if {A B : Hp → Prop} {σ : L2.St} {H : Hp} (h : A H) : tYes σ H fun b H3 => if b = true then A H3 else B H3 := iteT (A := A H) (B := B H) h
theorem nI_cut {l : List Nat} : nI l = l.map fun (n : Nat) => V.int (n : Int) := rfl
section
variable {P : Program} {w : World} {K : PySem.W.Frag} {mg : Str → Option Value} {base : Heap}
abbrev DCounted (P : Program) (w : World) (K : PySem.W.Frag) (mg : Str → Option Value) (base : Heap) : Prop := Dfn P w K mg base 1 "counted" ["points"] spCounted
/-- the end of an answer that tells a list and changes nothing -/
theorem finish_tell {C : Addr} {H H' : Hp} {r d l q : Addr} {p : Nat} {kept xs : List Nat} {st : Kp301.State} {y : Kp301.State × Kp301.Ans} (S : StOk st p kept) (R : RingAt C H r d l p kept) (e : y = (st, Kp301.tellAll xs)) (sm : Same H H') (hq : H q = none)
    (ha : H' q = some (.lst (iI ((xs.length : Int) :: xs.map fun (n : Nat) => (n : Int))))) : Done C H r l y H' q := finish S R (v := (xs.length : Int)) (m := xs.map fun (n : Nat) => (n : Int)) (by rw [e]; rfl) sm hq ha

/-! ### kept -/
theorem scTellKept : FnScope ["ring", "given"] ["ring", "given"] (defScope sTellKept) := ⟨rfl, rfl, rfl, by decide +kernel, rfl, by decide +kernel, by decide +kernel⟩
def spTellKept (C : Addr) : Sp := spH C A0 fun _ => .kept
theorem ok_tellKept {f C : Addr} {fd : FuncData} (F : Fun K "tell_kept" "tell_kept" sTellKept f fd) (T : Txt K mg C) (DC : DCounted P w K mg base) : FnOk P w K mg base CX0 2 f fd ["ring", "given"] (spTellKept C) := by
  refine F.ok scTellKept spH_len (fun cdv A outer s H vs Q E hr h => ?_)
  obtain ⟨r, d, l, g, p, kept, gs, st, rfl, R, S, hg, ⟨hp, rfl⟩, k⟩ := h
  obtain ⟨dx, h1⟩ := R.ob
  obtain ⟨hst, G⟩ := S.some_of hp
  refine ⟨_, pss_one (ps_ret (pe_D DC hr rfl (pa_cons (pe_fld (pv 0) rfl) pa_nil))), ?_⟩
  refine ⟨_, rfl, r, C, dx, _, _, rfl, h1, T.cl, T.nK, rf_k _ _ _, l, kept, rfl, R.kp, Nat.le_trans G.len (by decide), fun H' q sm hq ha => k _ q (finish_tell S R (xs := kept) ?_ sm hq ha)⟩
  rw [hst]
  rfl

/-! ### the list of what is kept is another one now -/
theorem done_moved {C : Addr} {H H2 H' : Hp} {r d l dx m q : Addr} {p : Nat} {kept xs : List Nat} {y : Kp301.State × Kp301.Ans} (R : RingAt C H r d l p kept) (h1 : H r = some (.ins C dx (rf p d l))) (hm : H m = none)
    (e2 : H2 = upd (upd H m (.lst (nI xs))) r (.ins C dx (rf p d m))) (G : Good p xs) (e : y = (some ⟨p, xs⟩, Kp301.tellAll xs)) (sm : Same H2 H') (hq : H2 q = none) (ha : H' q = some (.lst (iI ((xs.length : Int) :: xs.map fun (n : Nat) => (n : Int))))) : Done C H r l y H' q := by
  obtain ⟨kvs, hd, h3⟩ := R.sq
  have nmr : m ≠ r := fun z => by rw [z, h1] at hm; cases hm
  have nqr : q ≠ r := fun z => by rw [e2, z, upd_same] at hq; cases hq
  have nqm : q ≠ m := fun z => by rw [e2, z, upd_ne nmr, upd_same] at hq; cases hq
  have hq0 : H q = none := by rw [e2, upd_ne nqr, upd_ne nqm] at hq; exact hq
  have ndr : d ≠ r := ne_of hd h1 (by intro z; cases z)
  refine ⟨⟨d, m, p, xs, ?_, ⟨⟨dx, sm _ _ ?_⟩, ⟨kvs, sm _ _ ?_, h3⟩, sm _ _ ?_⟩, .inr hm⟩, fun b o eb hbr hbl => sm _ _ ?_, hq0, ?_⟩
  · rw [e]
    exact .inr ⟨rfl, G⟩
  · rw [e2, upd_same]
  · rw [e2, upd_ne ndr, upd_ne (ne_of_none hd hm)]
    exact hd
  · rw [e2, upd_ne nmr, upd_same]
  · rw [e2, upd_ne hbr, upd_ne (ne_of_none eb hm)]
    exact eb
  · rw [e]
    exact ha

/-! ### move, times -/
theorem scMove : FnScope ["ring", "given", "distance", "point"] ["ring", "given"] (defScope sMove) := ⟨rfl, rfl, rfl, by decide +kernel, rfl, by decide +kernel, by decide +kernel⟩
def spMove (C : Addr) : Sp := spH C A1' fun gs => .move (gs.headD 0)
theorem ok_move {f C : Addr} {fd : FuncData} (F : Fun K "move" "move" sMove f fd) (T : Txt K mg C) (DC : DCounted P w K mg base) : FnOk P w K mg base CX0 2 f fd ["ring", "given"] (spMove C) := by
  refine F.ok scMove spH_len (fun cdv A outer s H vs Q E hr h => ?_)
  obtain ⟨r, d, l, g, p, kept, gs, st, rfl, R, S, hg, ⟨hp, x, rfl⟩, k⟩ := h
  obtain ⟨dx, h1⟩ := R.ob
  obtain ⟨hst, G⟩ := S.some_of hp
  have k : ∀ (H' : Hp) (q : Addr), Done C H r l (Kp301.step st (.move x)) H' q → Q (.ref q) H' := k
  refine ⟨_, pss_cons (ps_set (i := 2) scMove.nd rfl (Or.inr rfl) (pe_ix ix_list (pv 1) pe_int (fun _ _ => rfl)))
    (pss_cons (ps_fld (pv 0) (pe_lc rfl scMove.nd (pi_list (pe_fld (pv 0) rfl)) (blkOk_by (own := [("point", 3)]) (by show blkC ["ring", "given", "distance", "point"] (defScope sMove) _ _ = true; decide +kernel))
      (fun _ _ _ _ _ => pg_name (i := 3) scMove.nd rfl (Or.inl rfl)) (fun _ _ _ _ _ => pts_nil)
      (fun _ _ _ _ _ => pe_op op_mod (pe_op op_add (pv 3) (pv 2)) (show PE _ _ (tFld K (tVar 0) "prime") from pe_fld (pv 0) rfl))) rfl)
    (pss_one (ps_ret (pe_D DC hr rfl (pa_cons (pe_fld (pv 0) rfl) pa_nil))))), ?_⟩
  refine ⟨_, rfl, g, _, _, _, rfl, rfl, SqL.of hg, at_of (j := 0) (v := V.int (x : Int)) rfl rfl, _, rfl, r, C, dx, _, _, rfl, h1, T.cl, T.nK, rf_k _ _ _, l, rfl, ⟨_, SqL.of R.kp⟩, ?_⟩
  intro m hm
  have nml : l ≠ m := ne_of_none R.kp hm
  have nmr : r ≠ m := ne_of_none h1 hm
  have h3 := (okP_lt G.ok).1
  refine lc_list (K := K) (a := l) (xs := nI kept) (fun i H' => H' = upd H m (.lst (nI ((kept.take i).map fun y => (y + x) % p)))) rfl (fun i H' _ e => by rw [e]; exact SqL.of (by rw [upd_ne nml]; exact R.kp)) ?_ ?_
  · rintro i z H' hi rfl
    obtain ⟨n, hn, rfl⟩ := nI_get hi
    have hlen := G.len
    have hil : i < kept.length := (List.getElem?_eq_some_iff.mp hn).1
    refine ⟨rfl, yes_if ?_⟩
    refine ⟨_, rfl, _, rfl, _, _, rfl, rfl, _, rfl, r, C, dx, _, _, rfl, (by rw [upd_ne nmr]; exact h1), T.cl, T.nP, rf_p _ _ _, _, _, rfl, rfl, (by show (0 : Int) < (p : Int); omega), _, upd_same, ?_, ?_⟩
    · rw [nI_len, List.length_map, List.length_take]
      exact Nat.lt_of_le_of_lt (Nat.le_trans (Nat.min_le_left ..) (show i ≤ 12 by omega)) (by decide)
    · rw [upd_upd, take_snoc hn, List.map_append, nI_app]
      have e : ((n : Int) + (x : Int)) % (p : Int) = (((n + x) % p : Nat) : Int) := by rw [Int.natCast_emod, Int.natCast_add]
      exact congrArg (fun z => upd H m (.lst (nI ((kept.take i).map fun y => (y + x) % p) ++ [V.int z]))) e
  · rintro H' rfl
    rw [nI_len, List.take_length]
    have nm : Kp301.moved p (x % p) kept = kept.map fun y => (y + x) % p := moved_mod p x kept
    have G2 : Good p (kept.map fun y => (y + x) % p) := by rw [← nm]; exact G.moved _
    refine ⟨_, rfl, r, C, dx, _, rfl, (by rw [upd_ne nmr]; exact h1), T.cl, T.nK, (by show 3 < 1000; decide), ?_⟩
    rw [rf_pk]
    refine ⟨_, rfl, r, C, dx, _, _, rfl, upd_same, T.cl, T.nK, rf_k _ _ _, m, _, rfl, (by rw [upd_ne (Ne.symm nmr)]; exact upd_same), Nat.le_trans G2.len (by decide), fun H' q sm hq ha => k _ q (done_moved R h1 hm rfl G2 ?_ sm hq ha)⟩
    rw [hst, ← nm]
    rfl
theorem scTimes : FnScope ["ring", "given", "factor", "point"] ["ring", "given"] (defScope sTimes) := ⟨rfl, rfl, rfl, by decide +kernel, rfl, by decide +kernel, by decide +kernel⟩
def spTimes (C : Addr) : Sp := spH C (fun p kept gs => A1' p kept gs ∧ ∀ x ∈ gs, x < 4294967296) fun gs => .times (gs.headD 0)
theorem ok_times {f C : Addr} {fd : FuncData} (F : Fun K "times" "times" sTimes f fd) (T : Txt K mg C) (DC : DCounted P w K mg base) : FnOk P w K mg base CX0 2 f fd ["ring", "given"] (spTimes C) := by
  refine F.ok scTimes spH_len (fun cdv A outer s H vs Q E hr h => ?_)
  obtain ⟨r, d, l, g, p, kept, gs, st, rfl, R, S, hg, ⟨⟨hp, x, rfl⟩, hb⟩, k⟩ := h
  have hx : x < 4294967296 := hb x (List.mem_cons_self ..)
  obtain ⟨dx, h1⟩ := R.ob
  obtain ⟨hst, G⟩ := S.some_of hp
  have k : ∀ (H' : Hp) (q : Addr), Done C H r l (Kp301.step st (.times x)) H' q → Q (.ref q) H' := k
  refine ⟨_, pss_cons (ps_set (i := 2) scTimes.nd rfl (Or.inr rfl) (pe_ix ix_list (pv 1) pe_int (fun _ _ => rfl)))
    (pss_cons (ps_if (pt_cmpR op_eq (pe_op op_mod (pv 2) (pe_fld (pv 0) rfl)) pe_int (nomark _)) (pss_one (ps_ret (pe_lst (pa_cons (pe_gi T.cNotFit rfl) pa_nil)))) pss_nil)
    (pss_cons (ps_fld (pv 0) (pe_lc rfl scTimes.nd (pi_list (pe_fld (pv 0) rfl)) (blkOk_by (own := [("point", 3)]) (by show blkC ["ring", "given", "factor", "point"] (defScope sTimes) _ _ = true; decide +kernel))
      (fun _ _ _ _ _ => pg_name (i := 3) scTimes.nd rfl (Or.inl rfl)) (fun _ _ _ _ _ => pts_nil)
      (fun _ _ _ _ _ => pe_op op_mod (pe_op op_mul (pv 2) (pv 3)) (show PE _ _ (tFld K (tVar 0) "prime") from pe_fld (pv 0) rfl))) rfl)
    (pss_one (ps_ret (pe_D DC hr rfl (pa_cons (pe_fld (pv 0) rfl) pa_nil)))))), ?_⟩
  have h3 := (okP_lt G.ok).1
  refine ⟨_, rfl, g, _, _, _, rfl, rfl, SqL.of hg, at_of (j := 0) (v := V.int (x : Int)) rfl rfl, _, rfl, _, rfl, r, C, dx, _, _, rfl, h1, T.cl, T.nP, rf_p _ _ _, _, _, rfl, rfl, (by show (0 : Int) < (p : Int); omega), rfl, _, rfl, ite2 (fun h => ?_) (fun h => ?_)⟩
  · have h4 : (x : Int) % (p : Int) = 0 := V.int.inj (of_decide_eq_true h)
    have h5 : x % p = 0 := Int.ofNat.inj (show ((x % p : Nat) : Int) = 0 by rw [Int.natCast_emod]; exact h4)
    refine ⟨(by show 1 ≤ sizeLine; decide), fun q hq => k _ q (finish S R (v := -22) (m := []) ?_ (same_upd hq) hq upd_same)⟩
    rw [hst]
    unfold Kp301.step
    simp only [h5, if_true]
    rfl
  · have h5 : ¬ x % p = 0 := fun e => h (decide_eq_true (by
      show V.int ((x : Int) % (p : Int)) = V.int 0
      rw [← Int.natCast_emod, e]
      rfl))
    refine ⟨_, rfl, r, C, dx, _, _, rfl, h1, T.cl, T.nK, rf_k _ _ _, l, rfl, ⟨_, SqL.of R.kp⟩, ?_⟩
    intro m hm
    have nml : l ≠ m := ne_of_none R.kp hm
    have nmr : r ≠ m := ne_of_none h1 hm
    refine lc_list (K := K) (a := l) (xs := nI kept) (fun i H' => H' = upd H m (.lst (nI ((kept.take i).map fun y => x * y % p)))) rfl (fun i H' _ e => by rw [e]; exact SqL.of (by rw [upd_ne nml]; exact R.kp)) ?_ ?_
    · rintro i z H' hi rfl
      obtain ⟨n, hn, rfl⟩ := nI_get hi
      have hlen := G.len
      have hil : i < kept.length := (List.getElem?_eq_some_iff.mp hn).1
      refine ⟨rfl, yes_if ?_⟩
      refine ⟨_, rfl, _, rfl, _, _, rfl, rfl, .inl ⟨by show -(2 ^ 64) < (x : Int); omega, by show (x : Int) < 2 ^ 64; omega⟩, _, rfl, r, C, dx, _, _, rfl, (by rw [upd_ne nmr]; exact h1), T.cl, T.nP, rf_p _ _ _, _, _, rfl, rfl, (by show (0 : Int) < (p : Int); omega), _, upd_same, ?_, ?_⟩
      · rw [nI_len, List.length_map, List.length_take]
        exact Nat.lt_of_le_of_lt (Nat.le_trans (Nat.min_le_left ..) (show i ≤ 12 by omega)) (by decide)
      · rw [upd_upd, take_snoc hn, List.map_append, nI_app]
        have e : ((x : Int) * (n : Int)) % (p : Int) = ((x * n % p : Nat) : Int) := by rw [Int.natCast_emod, Int.natCast_mul]
        exact congrArg (fun z => upd H m (.lst (nI ((kept.take i).map fun y => x * y % p) ++ [V.int z]))) e
    · rintro H' rfl
      rw [nI_len, List.take_length]
      have nm : Kp301.timed p (x % p) kept = kept.map fun y => x * y % p := timed_mod p x kept
      have G2 : Good p (kept.map fun y => x * y % p) := by rw [← nm]; exact G.timed (by rw [Nat.mod_mod]; exact h5)
      refine ⟨_, rfl, r, C, dx, _, rfl, (by rw [upd_ne nmr]; exact h1), T.cl, T.nK, (by show 3 < 1000; decide), ?_⟩
      rw [rf_pk]
      refine ⟨_, rfl, r, C, dx, _, _, rfl, upd_same, T.cl, T.nK, rf_k _ _ _, m, _, rfl, (by rw [upd_ne (Ne.symm nmr)]; exact upd_same), Nat.le_trans G2.len (by decide), fun H' q sm hq ha => k _ q (done_moved R h1 hm rfl G2 ?_ sm hq ha)⟩
      rw [hst, ← nm]
      unfold Kp301.step
      simp only [h5, if_false]
end
end Px
set_option Elab.async false
set_option linter.all false
set_option maxRecDepth 100000
set_option maxHeartbeats 2000000
namespace Px
open PySem PySem.Spec PyProof.Rows L2
theorem who_mem {p z : Nat} {l : List Nat} (h : z ∈ Kp301.who p l) : z < p ∧ z ∉ l := by
  unfold Kp301.who Kp301.nums at h
  obtain ⟨h1, h2⟩ := List.mem_filter.mp h
  rw [Bool.and_eq_true] at h2
  refine ⟨List.mem_range.mp h1, fun m => ?_⟩
  have : l.contains z = true := by simpa using m
  rw [this] at h2
  cases h2.1
theorem who_len (p : Nat) (l : List Nat) : (Kp301.who p l).length ≤ p := by
  unfold Kp301.who Kp301.nums
  exact Nat.le_trans (List.length_filter_le ..) (by rw [List.length_range]; exact Nat.le_refl _)
section
variable {P : Program} {w : World} {K : PySem.W.Frag} {mg : Str → Option Value} {base : Heap}
/-! ### grow -/
theorem scGrow : FnScope ["ring", "given", "leading"] ["ring", "given"] (defScope sGrow) := ⟨rfl, rfl, rfl, by decide +kernel, rfl, by decide +kernel, by decide +kernel⟩
def spGrow (C : Addr) : Sp := spH C A0 fun _ => .grow
theorem ok_grow {f C : Addr} {fd : FuncData} (F : Fun K "grow" "grow" sGrow f fd) (T : Txt K mg C) (DL : Dfn P w K mg base 3 "leading_to_each" ["ring", "targets"] (spLeadingEach K C)) : FnOk P w K mg base CX0 4 f fd ["ring", "given"] (spGrow C) := by
  refine F.ok scGrow spH_len (fun cdv A outer s H vs Q E hr h => ?_)
  obtain ⟨r, d, l, g, p, kept, gs, st, rfl, R, S, hg, ⟨hp, rfl⟩, k⟩ := h
  obtain ⟨dx, h1⟩ := R.ob
  obtain ⟨hst, G⟩ := S.some_of hp
  have k : ∀ (H' : Hp) (q : Addr), Done C H r l (Kp301.step st .grow) H' q → Q (.ref q) H' := k
  have h200 := (okP_lt G.ok).2
  refine ⟨_, pss_cons (ps_if (pt_cmpR op_eq (pe_callB call_len_seq (by rfl) T.len PySem.boot_len (pa_cons (pe_fld (pv 0) rfl) pa_nil)) (pe_gi T.cMost rfl) (nomark _)) (pss_one (ps_ret (pe_lst (pa_cons (pe_gi T.cFull rfl) pa_nil)))) pss_nil)
    (pss_cons (ps_set (i := 2) scGrow.nd rfl (Or.inl rfl) (pe_D DL hr rfl (pa_cons (pv 0) (pa_cons (pe_fld (pv 0) rfl) pa_nil))))
    (pss_cons (ps_if (pt_cmpR op_eq (pe_callB call_len_seq (by rfl) T.len PySem.boot_len (pa_cons (pv 2) pa_nil)) pe_int (nomark _)) (pss_one (ps_ret (pe_lst (pa_cons (pe_gi T.cNobody rfl) pa_nil)))) pss_nil)
    (pss_cons (ps_expr (pe_bm PySem.F.plainAttrs_list PySem.F.slot_list_append PySem.F.type_list_append mt_append (pe_fld (pv 0) rfl) (pa_cons (pe_ix ix_list (pv 2) pe_int (fun _ _ => rfl)) pa_nil)))
    (pss_one (ps_ret (pe_lst (pa_cons (pe_ix ix_list (pv 2) pe_int (fun _ _ => rfl)) pa_nil))))))), ?_⟩
  refine ⟨_, rfl, r, C, dx, _, _, rfl, h1, T.cl, T.nK, rf_k _ _ _, l, _, rfl, .inl (SqL.of R.kp), rfl, _, rfl, ite2 (fun h => ?_) (fun h => ?_)⟩
  · have hl : ((nI kept).length : Int) = 12 := V.int.inj (of_decide_eq_true h)
    rw [nI_len] at hl
    have hK : Kp301.KEPT ≤ kept.length := by show 12 ≤ kept.length; omega
    refine ⟨(by show 1 ≤ sizeLine; decide), fun q hq => k _ q (finish S R (v := -28) (m := []) ?_ (same_upd hq) hq upd_same)⟩
    rw [hst]
    unfold Kp301.step
    simp only [hK, if_true]
    rfl
  · have hl : ¬ kept.length = 12 := fun e => h (decide_eq_true (by show V.int ((nI kept).length : Int) = V.int 12; rw [nI_len, e]; rfl))
    have hlen := G.len
    have hK : ¬ Kp301.KEPT ≤ kept.length := by show ¬ 12 ≤ kept.length; omega
    refine ⟨_, rfl, _, rfl, r, C, dx, _, _, rfl, h1, T.cl, T.nK, rf_k _ _ _, r, d, l, l, p, kept, kept, rfl, R, h200, SqL.of R.kp, fun a ha => ?_⟩
    rw [← who_eq p kept]
    have sm := same_upd (o := .lst (nI (Kp301.who p kept))) ha
    have R2 := R.same sm
    refine ⟨_, rfl, a, _, rfl, .inl (SqL.of upd_same), rfl, _, rfl, ?_⟩
    cases hw : Kp301.who p kept with
    | nil =>
      refine iteT ⟨(by show 1 ≤ sizeLine; decide), fun q hq => k _ q (finish S R (v := -33) (m := []) ?_ ((same_upd ha).trans (same_upd hq)) ((same_upd ha).free hq) upd_same)⟩
      rw [hst]
      unfold Kp301.step
      simp only [hK, if_false, hw]
      rfl
    | cons z rest =>
      refine iteF ?_
      have hz := who_mem (p := p) (l := kept) (z := z) (by rw [hw]; exact List.mem_cons_self ..)
      have nal : l ≠ a := ne_of_none R.kp ha
      have nar : r ≠ a := ne_of_none h1 ha
      have nrl : r ≠ l := ne_of h1 R.kp (by intro z; cases z)
      obtain ⟨kvs, h2, h3⟩ := R.sq
      have ndl : d ≠ l := ne_of h2 R.kp (by intro z; cases z)
      have nda : d ≠ a := ne_of_none h2 ha
      refine ⟨_, rfl, r, C, dx, _, _, rfl, (by rw [upd_ne nar]; exact h1), T.cl, T.nK, rf_k _ _ _, .inl ⟨rfl, _, SqL.of (by rw [upd_ne nal]; exact R.kp)⟩, _, rfl, a, _, _, _, rfl, rfl, SqL.of upd_same, at_of (j := 0) (v := V.int (z : Int)) rfl rfl, l, _, _, rfl, rfl, (by rw [upd_ne nal]; exact R.kp), (by rw [nI_len]; exact Nat.lt_of_le_of_lt G.len (by decide)), ?_⟩
      refine ⟨_, rfl, a, _, _, _, rfl, rfl, SqL.of (by rw [upd_ne (Ne.symm nal)]; exact upd_same), at_of (j := 0) (v := V.int (z : Int)) rfl rfl, (by show 1 ≤ sizeLine; decide), fun q hq => ?_⟩
      have nql : q ≠ l := fun e => by rw [e, upd_same] at hq; cases hq
      have nqa : q ≠ a := fun e => by rw [e, upd_ne (Ne.symm nal), upd_same] at hq; cases hq
      rw [upd_ne nql, upd_ne nqa] at hq
      have e1 : Kp301.step st .grow = (some ⟨p, kept ++ [z]⟩, Kp301.say ((z : Nat) : Int)) := by
        rw [hst]
        unfold Kp301.step
        simp only [hK, if_false, hw]
        rfl
      have e2 : nI kept ++ [V.int (z : Int)] = nI (kept ++ [z]) := (nI_app kept [z]).symm
      refine k _ q ⟨⟨d, l, p, kept ++ [z], ?_, ⟨⟨dx, ?_⟩, ⟨kvs, ?_, h3⟩, ?_⟩, .inl rfl⟩, fun b o e hbr hbl => ?_, hq, ?_⟩
      · rw [e1]
        exact .inr ⟨rfl, G.snoc hz.1 hz.2 (by omega)⟩
      · rw [upd_ne (ne_of_none h1 hq), upd_ne nrl, upd_ne nar]
        exact h1
      · rw [upd_ne (ne_of_none h2 hq), upd_ne ndl, upd_ne nda]
        exact h2
      · rw [upd_ne (Ne.symm nql), upd_same, e2]
      · rw [upd_ne (ne_of_none e hq), upd_ne hbl, upd_ne (ne_of_none e ha)]
        exact e
      · rw [upd_same, e1]
        rfl

/-! ### leads, of, common -/
theorem scLeads : FnScope ["ring", "given", "source", "target"] ["ring", "given"] (defScope sLeads) := ⟨rfl, rfl, rfl, by decide +kernel, rfl, by decide +kernel, by decide +kernel⟩
def spLeads (C : Addr) : Sp := spH C A2 fun gs => .leads (gs.getD 0 0) (gs.getD 1 0)
theorem ok_leads {f C : Addr} {fd : FuncData} (F : Fun K "leads" "leads" sLeads f fd) (T : Txt K mg C) (D : Dfn P w K mg base 1 "leads_to" ["ring", "source", "target"] (spLeadsTo C)) : FnOk P w K mg base CX0 2 f fd ["ring", "given"] (spLeads C) := by
  refine F.ok scLeads spH_len (fun cdv A outer s H vs Q E hr h => ?_)
  obtain ⟨r, d, l, g, p, kept, gs, st, rfl, R, S, hg, ⟨hp, x, y, rfl, hx, hy⟩, k⟩ := h
  obtain ⟨hst, G⟩ := S.some_of hp
  have k : ∀ (H' : Hp) (q : Addr), Done C H r l (Kp301.step st (.leads x y)) H' q → Q (.ref q) H' := k
  have hxy : ¬ (p ≤ x ∨ p ≤ y) := by omega
  refine ⟨_, pss_cons (ps_set (i := 2) scLeads.nd rfl (Or.inl rfl) (pe_ix ix_list (pv 1) pe_int (fun _ _ => rfl)))
    (pss_cons (ps_set (i := 3) scLeads.nd rfl (Or.inl rfl) (pe_ix ix_list (pv 1) pe_int (fun _ _ => rfl)))
    (pss_cons (ps_if (pt_cmpR op_eq (pv 2) (pv 3) (nomark _)) (pss_one (ps_ret (pe_lst (pa_cons (pe_gi T.cNotFit rfl) pa_nil)))) pss_nil)
    (pss_one (ps_ret (pe_lst (pa_cons (pe_ifExp (pt_val (pe_D D hr rfl (pa_cons (pv 0) (pa_cons (pv 2) (pa_cons (pv 3) pa_nil))))) pe_int pe_int) pa_nil)))))), ?_⟩
  refine ⟨_, rfl, g, _, _, _, rfl, rfl, SqL.of hg, at_of (j := 0) (v := V.int (x : Int)) rfl rfl, _, rfl, g, _, _, _, rfl, rfl, SqL.of hg, at_of (j := 1) (v := V.int (y : Int)) rfl rfl, _, rfl, _, rfl, rfl, _, rfl, ite2 (fun h => ?_) (fun h => ?_)⟩
  · have e : x = y := Int.ofNat.inj (V.int.inj (of_decide_eq_true h))
    refine ⟨(by show 1 ≤ sizeLine; decide), fun q hq => k _ q (finish S R (v := -22) (m := []) ?_ (same_upd hq) hq upd_same)⟩
    subst e
    rw [hst]
    unfold Kp301.step
    simp only [hxy, if_false, if_true]
    rfl
  · have e : ¬ x = y := fun e => h (decide_eq_true (by rw [e]))
    refine ⟨_, rfl, _, rfl, _, rfl, r, d, l, p, kept, x, y, rfl, R, hx, _, rfl, ?_⟩
    cases hb : Kp301.leads p x y with
    | true =>
      refine iteT ⟨(by show 1 ≤ sizeLine; decide), fun q hq => k _ q (finish S R (v := 1) (m := []) ?_ (same_upd hq) hq upd_same)⟩
      rw [hst]
      unfold Kp301.step
      simp only [hxy, if_false, e, hb, if_true]
      rfl
    | false =>
      refine iteF ⟨(by show 1 ≤ sizeLine; decide), fun q hq => k _ q (finish S R (v := 0) (m := []) ?_ (same_upd hq) hq upd_same)⟩
      rw [hst]
      unfold Kp301.step
      simp only [hxy, if_false, e, hb]
      rfl
theorem all_one {p x : Nat} : (fun y => [x].all fun x => Kp301.leads p x y) = Kp301.leads p x := by
  funext y
  show (Kp301.leads p x y && true) = _
  rw [Bool.and_true]
theorem all_two {p x y : Nat} : (fun z => [x, y].all fun x => Kp301.leads p x z) = fun z => Kp301.leads p x z && Kp301.leads p y z := by
  funext z
  show (Kp301.leads p x z && (Kp301.leads p y z && true)) = _
  rw [Bool.and_true]
theorem filter_small {p : Nat} {f : Nat → Bool} (h : p < 200) : ((List.range p).filter f).length ≤ 1000 := Nat.le_trans (filter_len p) (by omega)
theorem scOf : FnScope ["ring", "given"] ["ring", "given"] (defScope sOf) := ⟨rfl, rfl, rfl, by decide +kernel, rfl, by decide +kernel, by decide +kernel⟩
def spOf (C : Addr) : Sp := spH C A1 fun gs => .of_ (gs.headD 0)
theorem ok_of {f C : Addr} {fd : FuncData} (F : Fun K "of" "of" sOf f fd) (T : Txt K mg C) (DC : DCounted P w K mg base) (DL : Dfn P w K mg base 3 "led_to_by_each" ["ring", "sources"] (spLedBy K C)) : FnOk P w K mg base CX0 4 f fd ["ring", "given"] (spOf C) := by
  refine F.ok scOf spH_len (fun cdv A outer s H vs Q E hr h => ?_)
  obtain ⟨r, d, l, g, p, kept, gs, st, rfl, R, S, hg, ⟨hp, x, rfl, hx⟩, k⟩ := h
  obtain ⟨hst, G⟩ := S.some_of hp
  have k : ∀ (H' : Hp) (q : Addr), Done C H r l (Kp301.step st (.of_ x)) H' q → Q (.ref q) H' := k
  have h200 := (okP_lt G.ok).2
  have hxp : ¬ p ≤ x := by omega
  have hr1 : Room 1 _ := hr.mono (by decide)
  refine ⟨_, pss_one (ps_ret (pe_D DC hr1 rfl (pa_cons (pe_D DL hr rfl (pa_cons (pv 0) (pa_cons (pv 1) pa_nil))) pa_nil))), ?_⟩
  refine ⟨_, rfl, _, rfl, r, d, l, g, p, kept, [x], rfl, R, h200, SqL.of hg, fun z hz => by rw [List.mem_singleton.mp hz]; exact hx, fun a ha => ?_⟩
  refine ⟨a, _, rfl, upd_same, filter_small h200, fun H' q sm hq hans => k _ q (finish_tell S R ?_ ((same_upd ha).trans sm) ((same_upd ha).free hq) hans)⟩
  rw [hst]
  unfold Kp301.step
  simp only [hxp, if_false]
  rw [all_one]
  rfl
theorem scCommon : FnScope ["ring", "given"] ["ring", "given"] (defScope sCommon) := ⟨rfl, rfl, rfl, by decide +kernel, rfl, by decide +kernel, by decide +kernel⟩
def spCommon (C : Addr) : Sp := spH C A2 fun gs => .common (gs.getD 0 0) (gs.getD 1 0)
theorem ok_common {f C : Addr} {fd : FuncData} (F : Fun K "common" "common" sCommon f fd) (T : Txt K mg C) (DC : DCounted P w K mg base) (DL : Dfn P w K mg base 3 "led_to_by_each" ["ring", "sources"] (spLedBy K C)) : FnOk P w K mg base CX0 4 f fd ["ring", "given"] (spCommon C) := by
  refine F.ok scCommon spH_len (fun cdv A outer s H vs Q E hr h => ?_)
  obtain ⟨r, d, l, g, p, kept, gs, st, rfl, R, S, hg, ⟨hp, x, y, rfl, hx, hy⟩, k⟩ := h
  obtain ⟨hst, G⟩ := S.some_of hp
  have k : ∀ (H' : Hp) (q : Addr), Done C H r l (Kp301.step st (.common x y)) H' q → Q (.ref q) H' := k
  have h200 := (okP_lt G.ok).2
  have hxy : ¬ (p ≤ x ∨ p ≤ y) := by omega
  have hr1 : Room 1 _ := hr.mono (by decide)
  refine ⟨_, pss_cons (ps_if (pt_cmpR op_eq (pe_ix ix_list (pv 1) pe_int (fun _ _ => rfl)) (pe_ix ix_list (pv 1) pe_int (fun _ _ => rfl)) (nomark _)) (pss_one (ps_ret (pe_lst (pa_cons (pe_gi T.cNotFit rfl) pa_nil)))) pss_nil)
    (pss_one (ps_ret (pe_D DC hr1 rfl (pa_cons (pe_D DL hr rfl (pa_cons (pv 0) (pa_cons (pv 1) pa_nil))) pa_nil)))), ?_⟩
  refine ⟨_, rfl, g, _, _, _, rfl, rfl, SqL.of hg, at_of (j := 0) (v := V.int (x : Int)) rfl rfl, _, rfl, g, _, _, _, rfl, rfl, SqL.of hg, at_of (j := 1) (v := V.int (y : Int)) rfl rfl, rfl, _, rfl, ite2 (fun h => ?_) (fun h => ?_)⟩
  · have e : x = y := Int.ofNat.inj (V.int.inj (of_decide_eq_true h))
    refine ⟨(by show 1 ≤ sizeLine; decide), fun q hq => k _ q (finish S R (v := -22) (m := []) ?_ (same_upd hq) hq upd_same)⟩
    subst e
    rw [hst]
    unfold Kp301.step
    simp only [hxy, if_false, if_true]
    rfl
  · have e : ¬ x = y := fun e => h (decide_eq_true (by rw [e]))
    refine ⟨_, rfl, _, rfl, r, d, l, g, p, kept, [x, y], rfl, R, h200, SqL.of hg, fun z hz => ?_, fun a ha => ?_⟩
    · rcases List.mem_cons.mp hz with h | h
      · rw [h]; exact hx
      · rw [List.mem_singleton.mp h]; exact hy
    · refine ⟨a, _, rfl, upd_same, filter_small h200, fun H' q sm hq hans => k _ q (finish_tell S R ?_ ((same_upd ha).trans sm) ((same_upd ha).free hq) hans)⟩
      rw [hst]
      unfold Kp301.step
      simp only [hxy, if_false, e]
      rw [all_two]
      rfl
end
end Px
set_option Elab.async false
set_option linter.all false
set_option maxRecDepth 100000
set_option maxHeartbeats 2000000
namespace Px
open PySem PySem.Spec PyProof.Rows L2
/-! ### walks over a locked dict's keys, over enumerate(list) -/
theorem for_keys {d : Addr} {o : Obj} {kvs : List (Key × V)} {g : TG} {tb : TS} {D : Ends} {σ : L2.St} {H : Hp} (Pv : Nat → L2.St → Hp → Prop) (h0 : Pv 0 σ H) (hl : ∀ i σ H, i ≤ kvs.length → Pv i σ H → H d = some (.frz o (.dK kvs)))
    (hs : ∀ i k v σ H, kvs[i]? = some (k, v) → Pv i σ H → g (kV k) σ H fun σ2 H2 => tb { D with nx := Pv (i + 1), ct := Pv (i + 1), bk := D.nx } σ2 H2) (hd : ∀ σ H, Pv kvs.length σ H → D.nx σ H) :
    ∃ W : Nat → Nat → L2.St → Hp → Prop, (∃ m, W 0 m σ H) ∧ ∀ i m σ H, W i m σ H →
      ((Itk d o kvs).stop i H ∧ D.nx σ H) ∨ ((Itk d o kvs).go i H ∧ ∃ N : L2.St → Hp → Prop, (∀ σ' H', N σ' H' → ∃ m', m' < m ∧ W (i + 1) m' σ' H') ∧ ∀ x H', (Itk d o kvs).yld i H x H' → g x σ H' fun σ2 H2 => tb { D with nx := N, ct := N, bk := D.nx } σ2 H2) := by
  refine ⟨fun i m σ H => m = kvs.length - i ∧ i ≤ kvs.length ∧ Pv i σ H, ⟨kvs.length, by simp, Nat.zero_le _, h0⟩, ?_⟩
  rintro i m σ H ⟨rfl, hi, p⟩
  have q := hl i σ H hi p
  by_cases hlt : i < kvs.length
  · refine .inr ⟨⟨q, hlt⟩, Pv (i + 1), fun σ' H' p' => ⟨kvs.length - (i + 1), by omega, rfl, hlt, p'⟩, fun x H' y => ?_⟩
    obtain ⟨e, k, v, hk, ex⟩ := y
    subst e ex
    exact hs i k v σ _ hk p
  · have e : i = kvs.length := by omega
    subst e
    exact .inl ⟨⟨q, Nat.le_refl _⟩, hd σ H p⟩
theorem lc_keys {d : Addr} {o : Obj} {kvs : List (Key × V)} {g : TG} {tt : TT} {te : TE} {vs : List Nat} {σ : L2.St} {H1 : Hp} {D : Addr} {Qd : Hp → Prop} (Pv : Nat → Hp → Prop) (h0 : Pv 0 (upd H1 D (.lst []))) (hl : ∀ i H, i ≤ kvs.length → Pv i H → H d = some (.frz o (.dK kvs)))
    (hs : ∀ i k v H, kvs[i]? = some (k, v) → Pv i H → g (kV k) (wipe σ vs) H fun σ2 H2 => wipe σ2 vs = wipe σ vs ∧ tt σ2 H2 fun b H3 =>
      if b = true then te σ2 H3 fun y H4 => ∃ acc, H4 D = some (.lst acc) ∧ acc.length < sizeLine ∧ Pv (i + 1) (upd H4 D (.lst (acc ++ [y]))) else Pv (i + 1) H3) (hd : ∀ H, Pv kvs.length H → Qd H) :
    ∃ W : Nat → Nat → Hp → Prop, (∃ m, W 0 m (upd H1 D (.lst []))) ∧ ∀ i m H, W i m H →
      ((Itk d o kvs).stop i H ∧ Qd H) ∨ ((Itk d o kvs).go i H ∧ ∃ Nx : Hp → Prop, (∀ H', Nx H' → ∃ m', m' < m ∧ W (i + 1) m' H') ∧ ∀ x H', (Itk d o kvs).yld i H x H' → g x (wipe σ vs) H' fun σ2 H2 => wipe σ2 vs = wipe σ vs ∧ tt σ2 H2 fun b H3 =>
        if b = true then te σ2 H3 fun y H4 => ∃ acc, H4 D = some (.lst acc) ∧ acc.length < sizeLine ∧ Nx (upd H4 D (.lst (acc ++ [y]))) else Nx H3) := by
  refine ⟨fun i m H => m = kvs.length - i ∧ i ≤ kvs.length ∧ Pv i H, ⟨kvs.length, by simp, Nat.zero_le _, h0⟩, ?_⟩
  rintro i m H ⟨rfl, hi, p⟩
  have q := hl i H hi p
  by_cases hlt : i < kvs.length
  · refine .inr ⟨⟨q, hlt⟩, Pv (i + 1), fun H' p' => ⟨kvs.length - (i + 1), by omega, rfl, hlt, p'⟩, fun x H' y => ?_⟩
    obtain ⟨e, k, v, hk, ex⟩ := y
    subst e ex
    exact hs i k v _ hk p
  · have e : i = kvs.length := by omega
    subst e
    exact .inl ⟨⟨q, Nat.le_refl _⟩, hd H p⟩
theorem for_enum {K : PySem.W.Frag} {a : Addr} {xs : List V} {g : TG} {tb : TS} {D : Ends} {σ : L2.St} {H : Hp} (Pv : Nat → L2.St → Hp → Prop) (h0 : Pv 0 σ H) (hl : ∀ i σ H, i ≤ xs.length → Pv i σ H → SqL K H a xs)
    (hs : ∀ i x σ H T, xs[i]? = some x → Pv i σ H → H T = none → g (.ref T) σ (upd H T (.tup [.int (i : Nat), x])) fun σ2 H2 => tb { D with nx := Pv (i + 1), ct := Pv (i + 1), bk := D.nx } σ2 H2) (hd : ∀ σ H, Pv xs.length σ H → D.nx σ H) :
    ∃ W : Nat → Nat → L2.St → Hp → Prop, (∃ m, W 0 m σ H) ∧ ∀ i m σ H, W i m σ H →
      ((Ite K a).stop i H ∧ D.nx σ H) ∨ ((Ite K a).go i H ∧ ∃ N : L2.St → Hp → Prop, (∀ σ' H', N σ' H' → ∃ m', m' < m ∧ W (i + 1) m' σ' H') ∧ ∀ x H', (Ite K a).yld i H x H' → g x σ H' fun σ2 H2 => tb { D with nx := N, ct := N, bk := D.nx } σ2 H2) := by
  refine ⟨fun i m σ H => m = xs.length - i ∧ i ≤ xs.length ∧ Pv i σ H, ⟨xs.length, by simp, Nat.zero_le _, h0⟩, ?_⟩
  rintro i m σ H ⟨rfl, hi, p⟩
  have q := hl i σ H hi p
  by_cases hlt : i < xs.length
  · refine .inr ⟨⟨xs, xs[i], q, by simp [hlt]⟩, Pv (i + 1), fun σ' H' p' => ⟨xs.length - (i + 1), by omega, rfl, hlt, p'⟩, fun x H' y => ?_⟩
    obtain ⟨T, z, e, hT, e2, y⟩ := y
    subst e e2
    exact hs i z σ _ T (y xs q) p hT
  · have e : i = xs.length := by omega
    subst e
    exact .inl ⟨⟨xs, q, Nat.le_refl _⟩, hd σ H p⟩
section
variable {P : Program} {w : World} {K : PySem.W.Frag} {mg : Str → Option Value} {base : Heap}
/-! ### led_to_by_any -/
def spLedByAny (C : Addr) : Sp := fun vs H Q _ => ∃ (r d l a : Addr) (p : Nat) (kept : List Nat) (kvs : List (Key × V)) (ks : List Nat), vs = [.ref r, .ref a] ∧ RingAt C H r d l p kept ∧ 0 < p ∧ p < 200 ∧ H a = some (.dK kvs) ∧ a ≠ d ∧ KeysN kvs ks ∧ (∀ z ∈ ks, z < p) ∧
  ∀ (H' : Hp) (q : Addr) (kvs' : List (Key × V)) (ks' : List Nat), Same H H' → H q = none → H' q = some (.dK kvs') → KeysN kvs' ks' → (∀ z, z ∈ ks' ↔ z < p ∧ ∃ y ∈ ks, Kp301.leads p y z = true) → Q (.ref q) H'
theorem scLedByAny : FnScope ["ring", "sources", "points", "source", "square"] ["ring", "sources"] (defScope sLedByAny) := ⟨rfl, rfl, rfl, by decide +kernel, rfl, by decide +kernel, by decide +kernel⟩
theorem keys_small {kvs : List (Key × V)} {ks : List Nat} {p : Nat} (hk : KeysN kvs ks) (hl : ∀ z ∈ ks, z < p) : kvs.length ≤ p := by
  rw [hk.len]
  have := List.Nodup.length_le_of_subset hk.nd (l₂ := List.range p) fun x hx => List.mem_range.mpr (hl x hx)
  rw [List.length_range] at this
  exact this
theorem ok_ledByAny {f C : Addr} {fd : FuncData} (F : Fun K "led_to_by_any" "led_to_by_any" sLedByAny f fd) (T : Txt K mg C) : FnOk P w K mg base CX0 1 f fd ["ring", "sources"] (spLedByAny C) := by
  refine F.ok scLedByAny (fun vs H Q E h => ?_) (fun cdv A outer s H vs Q E hr h => ?_)
  · obtain ⟨r, d, l, a, p, kept, kvs, ks, rfl, _⟩ := h
    rfl
  · obtain ⟨r, d, l, a, p, kept, kvs, ks, rfl, R, hp0, hp, ha, nad, hk, hks, k⟩ := h
    have hu := hu_of hr
    obtain ⟨dx, h1⟩ := R.ob
    obtain ⟨sq, h2, sks, hsk, hsq⟩ := R.sq
    have nra : r ≠ a := ne_of h1 ha (by intro z; cases z)
    have nrd : r ≠ d := ne_of h1 h2 (by intro z; cases z)
    refine ⟨_, pss_cons (ps_set (i := 2) scLedByAny.nd rfl (Or.inl rfl) pe_dnewK)
      (pss_cons (ps_lock (ps_lock (ps_for PassesOwn.never rfl (pi_keys (pv 1)) (pg_name (i := 3) scLedByAny.nd rfl (Or.inl rfl))
        (pss_one (ps_for PassesOwn.never rfl (pi_keys (pe_fld (pv 0) rfl)) (pg_name (i := 4) scLedByAny.nd rfl (Or.inl rfl))
          (pss_one (ps_dput hu (pv 2) (pe_op op_mod (pe_op op_add (pv 3) (pv 4)) (pe_fld (pv 0) rfl)) pe_bl rfl)))))))
      (pss_one (ps_ret (pv 2)))), ?_⟩
    intro q hq
    have nqa : a ≠ q := ne_of_none ha hq
    have nqd : d ≠ q := ne_of_none h2 hq
    have nqr : r ≠ q := ne_of_none h1 hq
    refine ⟨a, .dK kvs, (by rw [upd_ne nqa]; exact ha), trivial, fun oa => ?_⟩
    refine ⟨d, .dK sq, (by rw [upd_ne (Ne.symm nad), upd_ne nqd]; exact h2), trivial, fun od => ?_⟩
    generalize hH3 : upd (upd (upd H q (.dK [])) a (.frz oa (.dK kvs))) d (.frz od (.dK sq)) = H3
    have g1 : H3 a = some (.frz oa (.dK kvs)) := by rw [← hH3, upd_ne nad, upd_same]
    have g2 : H3 d = some (.frz od (.dK sq)) := by rw [← hH3, upd_same]
    have g3 : H3 r = some (.ins C dx (rf p d l)) := by rw [← hH3, upd_ne nrd, upd_ne nra, upd_ne nqr]; exact h1
    have g4 : H3 q = some (.dK []) := by rw [← hH3, upd_ne (Ne.symm nqd), upd_ne (Ne.symm nqa), upd_same]
    have g5 : ∀ b o, H b = some o → b ≠ a → b ≠ d → H3 b = some o := fun b o e n1 n2 => by
      rw [← hH3, upd_ne n2, upd_ne n1, upd_ne (ne_of_none e hq)]
      exact e
    clear hH3
    refine ⟨_, rfl, a, oa, rfl, .inl ⟨kvs, g1, ?_⟩⟩
    refine for_keys (fun i σ H' => (∃ v3 v4, σ = [some (.ref r), some (.ref a), some (.ref q), v3, v4]) ∧ ∃ kvs' ks', H' q = some (.dK kvs') ∧ (∀ b, b ≠ q → H' b = H3 b) ∧ KeysN kvs' ks' ∧ ∀ z, z ∈ ks' ↔ z < p ∧ ∃ y ∈ ks.take i, Kp301.leads p y z = true)
      ⟨⟨none, none, rfl⟩, [], [], g4, fun _ _ => rfl, .nil, fun z => ⟨fun h => (by cases h), fun ⟨_, y, hy, _⟩ => (by cases hy)⟩⟩ ?_ ?_ ?_
    · rintro i σ H' _ ⟨_, _, _, _, hs, _⟩
      rw [hs a nqa]
      exact g1
    · rintro i k0 v0 σ H' hi ⟨⟨v3, v4, rfl⟩, kvs1, ks1, e1, hs1, hk1, hm1⟩
      obtain ⟨y, hy, rfl⟩ := hk.get hi
      have hyp : y < p := hks y (List.mem_of_getElem? hy)
      refine ⟨_, rfl, r, C, dx, _, _, rfl, (by rw [hs1 r nqr]; exact g3), T.cl, T.nS, rf_s _ _ _, d, od, rfl, .inl ⟨sq, (by rw [hs1 d nqd]; exact g2), ?_⟩⟩
      refine for_keys (fun j σ H' => (∃ v4, σ = [some (.ref r), some (.ref a), some (.ref q), some (.int (y : Int)), v4]) ∧ ∃ kvs' ks', H' q = some (.dK kvs') ∧ (∀ b, b ≠ q → H' b = H3 b) ∧ KeysN kvs' ks' ∧ ∀ z, z ∈ ks' ↔ z < p ∧ ((∃ y ∈ ks.take i, Kp301.leads p y z = true) ∨ ∃ s ∈ sks.take j, (y + s) % p = z))
        ⟨⟨v4, rfl⟩, kvs1, ks1, e1, hs1, hk1, fun z => (hm1 z).trans (and_congr_right fun _ => ⟨.inl, fun h => h.elim id fun ⟨s, hs, _⟩ => (by cases hs)⟩)⟩ ?_ ?_ ?_
      · rintro j σ H'' _ ⟨_, _, _, _, hs, _⟩
        rw [hs d nqd]
        exact g2
      · rintro j k1 v1 σ H'' hj ⟨⟨v5, rfl⟩, kvs2, ks2, e2, hs2, hk2, hm2⟩
        obtain ⟨t, ht, rfl⟩ := hsk.get hj
        have e : ((y : Int) + (t : Int)) % (p : Int) = (((y + t) % p : Nat) : Int) := by rw [Int.natCast_emod, Int.natCast_add]
        have hl2 : kvs2.length ≤ p := keys_small hk2 fun z hz => ((hm2 z).mp hz).1
        refine ⟨_, rfl, _, rfl, _, rfl, _, _, rfl, rfl, _, rfl, r, C, dx, _, _, rfl, (by rw [hs2 r nqr]; exact g3), T.cl, T.nP, rf_p _ _ _, _, _, rfl, rfl, (by show (0 : Int) < (p : Int); omega), q, upd H'' q (.dK (putK kvs2 (keyN ((y + t) % p)) (.bl true))), rfl, ?_, ?_⟩
        · show DPut _ q (V.int (((y : Int) + (t : Int)) % (p : Int))) _ _
          rw [e]
          exact DPut.k (k := keyN ((y + t) % p)) e2 (Nat.lt_of_le_of_lt hl2 (Nat.lt_of_lt_of_le hp (by decide)))
        · obtain ⟨ks3, hk3, hm3⟩ := hk2.put ((y + t) % p) (.bl true)
          refine ⟨⟨_, rfl⟩, _, ks3, upd_same, fun b hb => (by rw [upd_ne hb]; exact hs2 b hb), hk3, fun z => ?_⟩
          rw [hm3, hm2, take_snoc ht]
          constructor
          · rintro (⟨h1, h2 | ⟨s, hs, es⟩⟩ | h2)
            · exact ⟨h1, .inl h2⟩
            · exact ⟨h1, .inr ⟨s, List.mem_append_left _ hs, es⟩⟩
            · exact ⟨by rw [h2]; exact Nat.mod_lt _ hp0, .inr ⟨t, List.mem_append_right _ (List.mem_singleton.mpr rfl), h2.symm⟩⟩
          · rintro ⟨h1, h2 | ⟨s, hs, es⟩⟩
            · exact .inl ⟨h1, .inl h2⟩
            · rcases List.mem_append.mp hs with h | h
              · exact .inl ⟨h1, .inr ⟨s, h, es⟩⟩
              · rw [List.mem_singleton.mp h] at es
                exact .inr es.symm
      · rintro σ H'' ⟨⟨v5, rfl⟩, kvs2, ks2, e2, hs2, hk2, hm2⟩
        refine ⟨⟨_, _, rfl⟩, kvs2, ks2, e2, hs2, hk2, fun z => ?_⟩
        rw [hm2, hsk.len, List.take_length, take_snoc hy]
        refine and_congr_right fun hz => ?_
        constructor
        · rintro (⟨y0, h1, h2⟩ | ⟨s, h1, h2⟩)
          · exact ⟨y0, List.mem_append_left _ h1, h2⟩
          · exact ⟨y, List.mem_append_right _ (List.mem_singleton.mpr rfl), (lead_add hyp hz).mpr ⟨s, (hsq s).mp h1, h2⟩⟩
        · rintro ⟨y0, h1, h2⟩
          rcases List.mem_append.mp h1 with h | h
          · exact .inl ⟨y0, h, h2⟩
          · rw [List.mem_singleton.mp h] at h2
            obtain ⟨s, h3, h4⟩ := (lead_add hyp hz).mp h2
            exact .inr ⟨s, (hsq s).mpr h3, h4⟩
    · rintro σ H' ⟨⟨v3, v4, rfl⟩, kvs1, ks1, e1, hs1, hk1, hm1⟩
      rw [hk.len, List.take_length] at hm1
      refine ⟨(by rw [hs1 d nqd]; exact g2), (by rw [upd_ne nad, hs1 a nqa]; exact g1), _, rfl, ?_⟩
      refine k _ q kvs1 ks1 (fun b o e => ?_) hq ?_ hk1 hm1
      · by_cases n1 : b = a
        · rw [n1, ha] at e
          rw [n1, upd_same]
          exact e
        · rw [upd_ne n1]
          by_cases n2 : b = d
          · rw [n2, h2] at e
            rw [n2, upd_same]
            exact e
          · rw [upd_ne n2, hs1 b (ne_of_none e hq)]
            exact g5 b o e n1 n2
      · rw [upd_ne (Ne.symm nqa), upd_ne (Ne.symm nqd)]
        exact e1
end
end Px
set_option Elab.async false
set_option linter.all false
set_option maxRecDepth 100000
set_option maxHeartbeats 2000000
namespace Px
open PySem PySem.Spec PyProof.Rows L2
theorem oft_snoc (p : Nat) (xs ys : List Nat) (x : Nat) : oft p (xs ++ [x]) ys = oft p xs ys + (ys.filter (Kp301.leads p x)).length := by
  unfold oft
  rw [List.map_append, List.map_singleton, sum_snoc]
theorem filter_snoc {f : Nat → Bool} (l : List Nat) (x : Nat) : (l ++ [x]).filter f = l.filter f ++ (if f x then [x] else []) := by
  rw [List.filter_append, List.filter_cons, List.filter_nil]
section
variable {P : Program} {w : World} {K : PySem.W.Frag} {mg : Str → Option Value} {base : Heap}
/-! ### how_often_led -/
def spOften (K : PySem.W.Frag) (C : Addr) : Sp := fun vs H Q _ => ∃ (r d l a b : Addr) (p : Nat) (kept xs ys : List Nat), vs = [.ref r, .ref a, .ref b] ∧ RingAt C H r d l p kept ∧ SqL K H a (nI xs) ∧ SqL K H b (nI ys) ∧ (∀ x ∈ xs, x < p) ∧ ys.length ≤ 1000 ∧
  ∀ H', Same H H' → Q (.int (oft p xs ys : Nat)) H'
theorem scOften : FnScope ["ring", "sources", "targets", "often", "source", "target"] ["ring", "sources", "targets"] (defScope sOften) := ⟨rfl, rfl, rfl, by decide +kernel, rfl, by decide +kernel, by decide +kernel⟩
theorem ok_often {f C : Addr} {fd : FuncData} (F : Fun K "how_often_led" "how_often_led" sOften f fd) (T : Txt K mg C) (D : Dfn P w K mg base 1 "leads_to" ["ring", "source", "target"] (spLeadsTo C)) :
    FnOk P w K mg base CX0 2 f fd ["ring", "sources", "targets"] (spOften K C) := by
  refine F.ok scOften (fun vs H Q E h => ?_) (fun cdv A outer s H vs Q E hr h => ?_)
  · obtain ⟨r, d, l, a, b, p, kept, xs, ys, rfl, _⟩ := h
    rfl
  · obtain ⟨r, d, l, a, b, p, kept, xs, ys, rfl, R, hSx, hSy, hx, hlen, k⟩ := h
    refine ⟨_, pss_cons (ps_set (i := 3) scOften.nd rfl (Or.inl rfl) pe_int)
      (pss_cons (ps_for PassesOwn.never rfl (pi_list (pv 1)) (pg_name (i := 4) scOften.nd rfl (Or.inr rfl))
        (pss_one (ps_aug (i := 3) scOften.nd rfl (Or.inl rfl) (pe_callB call_len_seq (by rfl) T.len PySem.boot_len (pa_cons
          (pe_lc rfl scOften.nd (pi_list (pv 2)) (blkOk_by (own := [("target", 5)]) (by show blkC ["ring", "sources", "targets", "often", "source", "target"] (defScope sOften) _ _ = true; decide +kernel))
            (fun _ _ _ _ _ => pg_name (i := 5) scOften.nd rfl (Or.inl rfl))
            (fun _ _ _ _ _ => pts_one (pt_val (pe_D D hr rfl (pa_cons (pv 0) (pa_cons (pv 4) (pa_cons (pv 5) pa_nil))))))
            (fun _ _ _ _ _ => pv 5)) pa_nil)) ip_add)))
      (pss_one (ps_ret (pv 3)))), ?_⟩
    refine ⟨_, rfl, a, rfl, ⟨_, hSx⟩, for_list (K := K) (a := a) (xs := nI xs) (fun i σ H' => Same H H' ∧ ∃ v, σ = [some (.ref r), some (.ref a), some (.ref b), some (.int (oft p (xs.take i) ys : Nat)), v, none])
      ⟨Same.refl H, none, rfl⟩ (fun i σ H' _ ⟨e, _⟩ => e.seq hSx) ?_ ?_⟩
    · rintro i z σ H' hi ⟨sm, v, rfl⟩
      obtain ⟨x, hxi, rfl⟩ := nI_get hi
      have hxp : x < p := hx x (List.mem_of_getElem? hxi)
      refine ⟨_, rfl, _, rfl, b, rfl, ⟨_, sm.seq hSy⟩, ?_⟩
      intro m hm
      refine lc_list (K := K) (a := b) (xs := nI ys) (fun j H2 => H2 = upd H' m (.lst (nI ((ys.take j).filter (Kp301.leads p x))))) rfl (fun j H2 _ e => by rw [e]; exact (same_upd hm).seq (sm.seq hSy)) ?_ ?_
      · rintro j z H2 hj rfl
        obtain ⟨y, hyj, rfl⟩ := nI_get hj
        have hjl : j < ys.length := (List.getElem?_eq_some_iff.mp hyj).1
        refine ⟨rfl, _, rfl, _, rfl, _, rfl, r, d, l, p, kept, x, y, rfl, (R.same sm).same (same_upd hm), hxp, _, rfl, ?_⟩
        cases e : Kp301.leads p x y with
        | false =>
          refine iteF ?_
          rw [take_snoc hyj, filter_snoc, e]
          simp
        | true =>
          refine iteT ⟨_, rfl, _, upd_same, ?_, ?_⟩
          · rw [nI_len]
            refine Nat.lt_of_le_of_lt (Nat.le_trans (List.length_filter_le ..) ?_) (show 1000 < sizeLine by decide)
            rw [List.length_take]
            omega
          · rw [upd_upd, take_snoc hyj, filter_snoc, e, nI_app]
            rfl
      · rintro H2 rfl
        rw [nI_len, List.take_length]
        refine ⟨m, _, rfl, .inl (SqL.of upd_same), _, _, rfl, rfl, sm.trans (same_upd hm), ?_⟩
        refine ⟨some (.int (x : Int)), ?_⟩
        rw [nI_len, take_snoc hxi, oft_snoc]
        rfl
    · rintro σ H' ⟨sm, v, rfl⟩
      rw [nI_len, List.take_length]
      exact ⟨_, rfl, k H' sm⟩

/-! ### leads_both_ways, how_many_pairs -/
def spBoth (C : Addr) : Sp := fun vs H Q _ => ∃ (r d l : Addr) (p : Nat) (kept : List Nat), vs = [.ref r] ∧ RingAt C H r d l p kept ∧ Q (.bl (decide (p % 4 = 1))) H
theorem scBothWays : FnScope ["ring"] ["ring"] (defScope sBothWays) := ⟨rfl, rfl, rfl, by decide +kernel, rfl, by decide +kernel, by decide +kernel⟩
theorem dec_mod (p : Nat) : decide (V.int ((p : Int) % 4) = V.int 1) = decide (p % 4 = 1) := by
  rw [Bool.eq_iff_iff, decide_eq_true_iff, decide_eq_true_iff]
  constructor
  · intro e
    have e := V.int.inj e
    omega
  · intro e
    refine congrArg V.int ?_
    omega
theorem ok_both {f C : Addr} {fd : FuncData} (F : Fun K "leads_both_ways" "leads_both_ways" sBothWays f fd) (T : Txt K mg C) : FnOk P w K mg base CX0 1 f fd ["ring"] (spBoth C) := by
  refine F.ok scBothWays (fun vs H Q E h => ?_) (fun cdv A outer s H vs Q E hr h => ?_)
  · obtain ⟨r, d, l, p, kept, rfl, _⟩ := h
    rfl
  · obtain ⟨r, d, l, p, kept, rfl, R, q⟩ := h
    obtain ⟨dx, h1⟩ := R.ob
    refine ⟨_, pss_one (ps_ret (pe_cmpR op_eq (pe_op op_mod (pe_fld (pv 0) rfl) pe_int) pe_int (nomark _))), ?_⟩
    refine ⟨_, rfl, r, C, dx, _, _, rfl, h1, T.cl, T.nP, rf_p _ _ _, _, _, rfl, rfl, (by show (0 : Int) < 4; decide), rfl, ?_⟩
    rw [← dec_mod] at q
    exact q
def spPairs (K : PySem.W.Frag) (C : Addr) : Sp := fun vs H Q _ => ∃ (r d l a b : Addr) (p : Nat) (kept xs ys : List Nat), vs = [.ref r, .ref a, .ref b] ∧ RingAt C H r d l p kept ∧ SqL K H a (nI xs) ∧ SqL K H b (nI ys) ∧ (∀ x ∈ xs, x < p) ∧ ys.length ≤ 1000 ∧
  ∀ H', Same H H' → Q (.int (pairsOf p (oft p xs ys) : Nat)) H'
theorem scPairs : FnScope ["ring", "sources", "targets", "often"] ["ring", "sources", "targets"] (defScope sPairs) := ⟨rfl, rfl, rfl, by decide +kernel, rfl, by decide +kernel, by decide +kernel⟩
theorem ok_pairs {f C : Addr} {fd : FuncData} (F : Fun K "how_many_pairs" "how_many_pairs" sPairs f fd) (T : Txt K mg C) (DO : Dfn P w K mg base 2 "how_often_led" ["ring", "sources", "targets"] (spOften K C)) (DB : Dfn P w K mg base 1 "leads_both_ways" ["ring"] (spBoth C)) :
    FnOk P w K mg base CX0 3 f fd ["ring", "sources", "targets"] (spPairs K C) := by
  refine F.ok scPairs (fun vs H Q E h => ?_) (fun cdv A outer s H vs Q E hr h => ?_)
  · obtain ⟨r, d, l, a, b, p, kept, xs, ys, rfl, _⟩ := h
    rfl
  · obtain ⟨r, d, l, a, b, p, kept, xs, ys, rfl, R, hSx, hSy, hx, hlen, k⟩ := h
    have hr1 : Room 1 _ := hr.mono (by decide)
    refine ⟨_, pss_cons (ps_set (i := 3) scPairs.nd rfl (Or.inl rfl) (pe_D DO hr rfl (pa_cons (pv 0) (pa_cons (pv 1) (pa_cons (pv 2) pa_nil)))))
      (pss_one (ps_ret (pe_ifExp (pt_val (pe_D DB hr1 rfl (pa_cons (pv 0) pa_nil))) (pe_op op_fdiv (pv 3) pe_int) (pv 3)))), ?_⟩
    refine ⟨_, rfl, _, rfl, _, rfl, r, d, l, a, b, p, kept, xs, ys, rfl, R, hSx, hSy, hx, hlen, fun H' sm => ?_⟩
    refine ⟨_, rfl, r, d, l, p, kept, rfl, R.same sm, _, rfl, ite2 (fun h => ?_) (fun h => ?_)⟩
    · have h4 : p % 4 = 1 := of_decide_eq_true h
      refine ⟨_, rfl, _, _, rfl, rfl, ⟨by decide, by decide⟩, ?_⟩
      have := k H' sm
      unfold pairsOf at this
      rw [if_pos h4] at this
      exact this
    · have h4 : ¬ p % 4 = 1 := fun z => h (decide_eq_true z)
      refine ⟨_, rfl, ?_⟩
      have := k H' sm
      unfold pairsOf at this
      rw [if_neg h4] at this
      exact this
end
end Px
set_option Elab.async false
set_option linter.all false
set_option maxRecDepth 100000
set_option maxHeartbeats 2000000
namespace Px
open PySem PySem.Spec PyProof.Rows L2
section
variable {P : Program} {w : World} {K : PySem.W.Frag} {mg : Str → Option Value} {base : Heap}
abbrev DLedBy (P : Program) (w : World) (K : PySem.W.Frag) (mg : Str → Option Value) (base : Heap) (C : Addr) : Prop := Dfn P w K mg base 3 "led_to_by_each" ["ring", "sources"] (spLedBy K C)
abbrev DLeading (P : Program) (w : World) (K : PySem.W.Frag) (mg : Str → Option Value) (base : Heap) (C : Addr) : Prop := Dfn P w K mg base 3 "leading_to_each" ["ring", "targets"] (spLeadingEach K C)
abbrev DPairs (P : Program) (w : World) (K : PySem.W.Frag) (mg : Str → Option Value) (base : Heap) (C : Addr) : Prop := Dfn P w K mg base 3 "how_many_pairs" ["ring", "sources", "targets"] (spPairs K C)
/-! ### into, who -/
theorem into_two {p x y : Nat} : (fun z => [x, y].all (Kp301.leads p z)) = fun z => Kp301.leads p z x && Kp301.leads p z y := by
  funext z
  show (Kp301.leads p z x && (Kp301.leads p z y && true)) = _
  rw [Bool.and_true]
theorem scInto : FnScope ["ring", "given"] ["ring", "given"] (defScope sInto) := ⟨rfl, rfl, rfl, by decide +kernel, rfl, by decide +kernel, by decide +kernel⟩
def spInto (C : Addr) : Sp := spH C A2 fun gs => .into (gs.getD 0 0) (gs.getD 1 0)
theorem ok_into {f C : Addr} {fd : FuncData} (F : Fun K "into" "into" sInto f fd) (T : Txt K mg C) (DC : DCounted P w K mg base) (DL : DLeading P w K mg base C) : FnOk P w K mg base CX0 4 f fd ["ring", "given"] (spInto C) := by
  refine F.ok scInto spH_len (fun cdv A outer s H vs Q E hr h => ?_)
  obtain ⟨r, d, l, g, p, kept, gs, st, rfl, R, S, hg, ⟨hp, x, y, rfl, hx, hy⟩, k⟩ := h
  obtain ⟨hst, G⟩ := S.some_of hp
  have k : ∀ (H' : Hp) (q : Addr), Done C H r l (Kp301.step st (.into x y)) H' q → Q (.ref q) H' := k
  have h200 := (okP_lt G.ok).2
  have hxy : ¬ (p ≤ x ∨ p ≤ y) := by omega
  have hr1 : Room 1 _ := hr.mono (by decide)
  refine ⟨_, pss_cons (ps_if (pt_cmpR op_eq (pe_ix ix_list (pv 1) pe_int (fun _ _ => rfl)) (pe_ix ix_list (pv 1) pe_int (fun _ _ => rfl)) (nomark _)) (pss_one (ps_ret (pe_lst (pa_cons (pe_gi T.cNotFit rfl) pa_nil)))) pss_nil)
    (pss_one (ps_ret (pe_D DC hr1 rfl (pa_cons (pe_D DL hr rfl (pa_cons (pv 0) (pa_cons (pv 1) pa_nil))) pa_nil)))), ?_⟩
  refine ⟨_, rfl, g, _, _, _, rfl, rfl, SqL.of hg, at_of (j := 0) (v := V.int (x : Int)) rfl rfl, _, rfl, g, _, _, _, rfl, rfl, SqL.of hg, at_of (j := 1) (v := V.int (y : Int)) rfl rfl, rfl, _, rfl, ite2 (fun h => ?_) (fun h => ?_)⟩
  · have e : x = y := Int.ofNat.inj (V.int.inj (of_decide_eq_true h))
    refine ⟨(by show 1 ≤ sizeLine; decide), fun q hq => k _ q (finish S R (v := -22) (m := []) ?_ (same_upd hq) hq upd_same)⟩
    subst e
    rw [hst]
    unfold Kp301.step
    simp only [hxy, if_false, if_true]
    rfl
  · have e : ¬ x = y := fun e => h (decide_eq_true (by rw [e]))
    refine ⟨_, rfl, _, rfl, r, d, l, g, p, kept, [x, y], rfl, R, h200, SqL.of hg, fun a ha => ?_⟩
    refine ⟨a, _, rfl, upd_same, filter_small h200, fun H' q sm hq hans => k _ q (finish_tell S R ?_ ((same_upd ha).trans sm) ((same_upd ha).free hq) hans)⟩
    rw [hst]
    unfold Kp301.step
    simp only [hxy, if_false, e]
    rw [into_two]
    rfl
theorem scWho : FnScope ["ring", "given"] ["ring", "given"] (defScope sWho) := ⟨rfl, rfl, rfl, by decide +kernel, rfl, by decide +kernel, by decide +kernel⟩
def spWho (C : Addr) : Sp := spH C A0 fun _ => .who
theorem ok_who {f C : Addr} {fd : FuncData} (F : Fun K "who" "who" sWho f fd) (T : Txt K mg C) (DC : DCounted P w K mg base) (DL : DLeading P w K mg base C) : FnOk P w K mg base CX0 4 f fd ["ring", "given"] (spWho C) := by
  refine F.ok scWho spH_len (fun cdv A outer s H vs Q E hr h => ?_)
  obtain ⟨r, d, l, g, p, kept, gs, st, rfl, R, S, hg, ⟨hp, rfl⟩, k⟩ := h
  obtain ⟨dx, h1⟩ := R.ob
  obtain ⟨hst, G⟩ := S.some_of hp
  have k : ∀ (H' : Hp) (q : Addr), Done C H r l (Kp301.step st .who) H' q → Q (.ref q) H' := k
  have h200 := (okP_lt G.ok).2
  have hr1 : Room 1 _ := hr.mono (by decide)
  refine ⟨_, pss_one (ps_ret (pe_D DC hr1 rfl (pa_cons (pe_D DL hr rfl (pa_cons (pv 0) (pa_cons (pe_fld (pv 0) rfl) pa_nil))) pa_nil))), ?_⟩
  refine ⟨_, rfl, _, rfl, r, C, dx, _, _, rfl, h1, T.cl, T.nK, rf_k _ _ _, r, d, l, l, p, kept, kept, rfl, R, h200, SqL.of R.kp, fun a ha => ?_⟩
  refine ⟨a, _, rfl, upd_same, filter_small h200, fun H' q sm hq hans => k _ q (finish_tell S R ?_ ((same_upd ha).trans sm) ((same_upd ha).free hq) hans)⟩
  rw [hst, ← who_eq]
  rfl
/-! ### rounds, inner, group, told -/
theorem into_one {p x : Nat} : (fun z => [x].all (Kp301.leads p z)) = fun z => Kp301.leads p z x := by
  funext z
  show (Kp301.leads p z x && true) = _
  rw [Bool.and_true]
theorem scRounds : FnScope ["ring", "given"] ["ring", "given"] (defScope sRounds) := ⟨rfl, rfl, rfl, by decide +kernel, rfl, by decide +kernel, by decide +kernel⟩
def spRounds (C : Addr) : Sp := spH C A1 fun gs => .rounds (gs.headD 0)
theorem ok_rounds {f C : Addr} {fd : FuncData} (F : Fun K "rounds" "rounds" sRounds f fd) (T : Txt K mg C) (DB : DLedBy P w K mg base C) (DL : DLeading P w K mg base C) (DP : DPairs P w K mg base C) : FnOk P w K mg base CX0 4 f fd ["ring", "given"] (spRounds C) := by
  refine F.ok scRounds spH_len (fun cdv A outer s H vs Q E hr h => ?_)
  obtain ⟨r, d, l, g, p, kept, gs, st, rfl, R, S, hg, ⟨hp, x, rfl, hx⟩, k⟩ := h
  obtain ⟨hst, G⟩ := S.some_of hp
  have k : ∀ (H' : Hp) (q : Addr), Done C H r l (Kp301.step st (.rounds x)) H' q → Q (.ref q) H' := k
  have h200 := (okP_lt G.ok).2
  have hxp : ¬ p ≤ x := by omega
  refine ⟨_, pss_one (ps_ret (pe_lst (pa_cons (pe_D DP hr rfl (pa_cons (pv 0) (pa_cons (pe_D DB hr rfl (pa_cons (pv 0) (pa_cons (pv 1) pa_nil))) (pa_cons (pe_D DL hr rfl (pa_cons (pv 0) (pa_cons (pv 1) pa_nil))) pa_nil)))) pa_nil))), ?_⟩
  refine ⟨_, rfl, _, rfl, _, rfl, r, d, l, g, p, kept, [x], rfl, R, h200, SqL.of hg, fun z hz => (by rw [List.mem_singleton.mp hz]; exact hx), fun a ha => ?_⟩
  have s1 : Same H _ := same_upd (o := .lst (nI ((List.range p).filter fun y => [x].all fun x => Kp301.leads p x y))) ha
  refine ⟨_, rfl, _, rfl, r, d, l, g, p, kept, [x], rfl, R.same s1, h200, SqL.of (s1 _ _ hg), fun b hb => ?_⟩
  have s2 := same_upd (o := .lst (nI ((List.range p).filter fun z => [x].all (Kp301.leads p z)))) hb
  refine ⟨r, d, l, a, b, p, kept, _, _, rfl, (R.same s1).same s2, SqL.of (s2 _ _ upd_same), SqL.of upd_same, fun z hz => List.mem_range.mp (List.mem_filter.mp hz).1, filter_small h200, fun H' sm => ?_⟩
  have s3 := (s1.trans s2).trans sm
  refine ⟨(by show 1 ≤ sizeLine; decide), fun q hq => k _ q (finish S R (v := ((Kp301.rounds p x).length : Nat)) (m := []) ?_ (s3.trans (same_upd hq)) (s3.free hq) ?_)⟩
  · rw [hst]
    unfold Kp301.step
    simp only [hxp, if_false]
    rfl
  · rw [upd_same, all_one, into_one, rounds_eq G.ok hx]
    rfl
theorem scInner : FnScope ["ring", "given"] ["ring", "given"] (defScope sInner) := ⟨rfl, rfl, rfl, by decide +kernel, rfl, by decide +kernel, by decide +kernel⟩
def spInner (C : Addr) : Sp := spH C A0 fun _ => .inner
theorem ok_inner {f C : Addr} {fd : FuncData} (F : Fun K "inner" "inner" sInner f fd) (T : Txt K mg C) (DP : DPairs P w K mg base C) : FnOk P w K mg base CX0 4 f fd ["ring", "given"] (spInner C) := by
  refine F.ok scInner spH_len (fun cdv A outer s H vs Q E hr h => ?_)
  obtain ⟨r, d, l, g, p, kept, gs, st, rfl, R, S, hg, ⟨hp, rfl⟩, k⟩ := h
  obtain ⟨dx, h1⟩ := R.ob
  obtain ⟨hst, G⟩ := S.some_of hp
  have k : ∀ (H' : Hp) (q : Addr), Done C H r l (Kp301.step st .inner) H' q → Q (.ref q) H' := k
  refine ⟨_, pss_one (ps_ret (pe_lst (pa_cons (pe_D DP hr rfl (pa_cons (pv 0) (pa_cons (pe_fld (pv 0) rfl) (pa_cons (pe_fld (pv 0) rfl) pa_nil)))) pa_nil))), ?_⟩
  refine ⟨_, rfl, _, rfl, r, C, dx, _, _, rfl, h1, T.cl, T.nK, rf_k _ _ _, _, rfl, r, C, dx, _, _, rfl, h1, T.cl, T.nK, rf_k _ _ _, r, d, l, l, l, p, kept, kept, kept, rfl, R, SqL.of R.kp, SqL.of R.kp, G.lt, Nat.le_trans G.len (by decide), fun H' sm => ?_⟩
  refine ⟨(by show 1 ≤ sizeLine; decide), fun q hq => k _ q (finish S R (v := (Kp301.inner p kept : Nat)) (m := []) ?_ (sm.trans (same_upd hq)) (sm.free hq) ?_)⟩
  · rw [hst]
    rfl
  · rw [upd_same, inner_eq G.ok G.lt]
    rfl
theorem scGroup : FnScope ["ring", "given", "many", "often"] ["ring", "given"] (defScope sGroup) := ⟨rfl, rfl, rfl, by decide +kernel, rfl, by decide +kernel, by decide +kernel⟩
def spGroup (C : Addr) : Sp := spH C A0 fun _ => .group
theorem ok_group {f C : Addr} {fd : FuncData} (F : Fun K "group" "group" sGroup f fd) (T : Txt K mg C) (DO : Dfn P w K mg base 2 "how_often_led" ["ring", "sources", "targets"] (spOften K C)) : FnOk P w K mg base CX0 3 f fd ["ring", "given"] (spGroup C) := by
  refine F.ok scGroup spH_len (fun cdv A outer s H vs Q E hr h => ?_)
  obtain ⟨r, d, l, g, p, kept, gs, st, rfl, R, S, hg, ⟨hp, rfl⟩, k⟩ := h
  obtain ⟨dx, h1⟩ := R.ob
  obtain ⟨hst, G⟩ := S.some_of hp
  have k : ∀ (H' : Hp) (q : Addr), Done C H r l (Kp301.step st .group) H' q → Q (.ref q) H' := k
  have hlen := G.len
  refine ⟨_, pss_cons (ps_set (i := 2) scGroup.nd rfl (Or.inl rfl) (pe_callB call_len_seq (by rfl) T.len PySem.boot_len (pa_cons (pe_fld (pv 0) rfl) pa_nil)))
    (pss_cons (ps_set (i := 3) scGroup.nd rfl (Or.inl rfl) (pe_D DO hr rfl (pa_cons (pv 0) (pa_cons (pe_fld (pv 0) rfl) (pa_cons (pe_fld (pv 0) rfl) pa_nil)))))
    (pss_one (ps_ret (pe_lst (pa_cons (pe_ifExp (pt_cmpR op_eq (pv 3) (pe_op op_mul (pv 2) (pe_op op_sub (pv 2) pe_int)) (nomark _)) pe_int pe_int) pa_nil))))), ?_⟩
  refine ⟨_, rfl, r, C, dx, _, _, rfl, h1, T.cl, T.nK, rf_k _ _ _, l, _, rfl, .inl (SqL.of R.kp), _, rfl, _, rfl, r, C, dx, _, _, rfl, h1, T.cl, T.nK, rf_k _ _ _, _, rfl, r, C, dx, _, _, rfl, h1, T.cl, T.nK, rf_k _ _ _, r, d, l, l, l, p, kept, kept, kept, rfl, R, SqL.of R.kp, SqL.of R.kp, G.lt, Nat.le_trans G.len (by decide), fun H' sm => ?_⟩
  refine ⟨_, rfl, _, rfl, _, rfl, _, _, rfl, rfl, _, _, rfl, rfl, .inl ⟨by show -(2 ^ 64) < ((nI kept).length : Int); omega, by show ((nI kept).length : Int) < 2 ^ 64; rw [nI_len]; omega⟩, rfl, _, rfl, ?_⟩
  have e0 : decide (V.int (oft p kept kept : Nat) = V.int (((nI kept).length : Int) * (((nI kept).length : Int) - 1))) = Kp301.group p kept := by
    rw [nI_len, group_eq, Bool.eq_iff_iff, decide_eq_true_iff, decide_eq_true_iff]
    exact ⟨V.int.inj, congrArg V.int⟩
  rw [e0]
  cases hb : Kp301.group p kept with
  | true =>
    refine iteT ⟨(by show 1 ≤ sizeLine; decide), fun q hq => k _ q (finish S R (v := 1) (m := []) ?_ (sm.trans (same_upd hq)) (sm.free hq) upd_same)⟩
    rw [hst]
    unfold Kp301.step
    simp only [hb, if_true]
    rfl
  | false =>
    refine iteF ⟨(by show 1 ≤ sizeLine; decide), fun q hq => k _ q (finish S R (v := 0) (m := []) ?_ (sm.trans (same_upd hq)) (sm.free hq) upd_same)⟩
    rw [hst]
    unfold Kp301.step
    simp only [hb]
    rfl
theorem scTold : FnScope ["ring", "given"] ["ring", "given"] (defScope sTold) := ⟨rfl, rfl, rfl, by decide +kernel, rfl, by decide +kernel, by decide +kernel⟩
def spTold (C : Addr) : Sp := spH C A0 fun _ => .told
theorem ok_told {f C : Addr} {fd : FuncData} (F : Fun K "told" "told" sTold f fd) (T : Txt K mg C) : FnOk P w K mg base CX0 1 f fd ["ring", "given"] (spTold C) := by
  refine F.ok scTold spH_len (fun cdv A outer s H vs Q E hr h => ?_)
  obtain ⟨r, d, l, g, p, kept, gs, st, rfl, R, S, hg, ⟨hp, rfl⟩, k⟩ := h
  obtain ⟨dx, h1⟩ := R.ob
  obtain ⟨hst, G⟩ := S.some_of hp
  have k : ∀ (H' : Hp) (q : Addr), Done C H r l (Kp301.step st .told) H' q → Q (.ref q) H' := k
  refine ⟨_, pss_one (ps_ret (pe_lst (pa_cons (pe_fld (pv 0) rfl) (pa_cons (pe_op op_mod (pe_fld (pv 0) rfl) pe_int) pa_nil)))), ?_⟩
  refine ⟨_, rfl, r, C, dx, _, _, rfl, h1, T.cl, T.nP, rf_p _ _ _, _, rfl, r, C, dx, _, _, rfl, h1, T.cl, T.nP, rf_p _ _ _, _, _, rfl, rfl, (by show (0 : Int) < 4; decide), (by show 2 ≤ sizeLine; decide), fun q hq => k _ q (finish S R (v := (p : Int)) (m := [((p % 4 : Nat) : Int)]) ?_ (same_upd hq) hq ?_)⟩
  · rw [hst]
    rfl
  · rw [upd_same]
    show some (HO.lst [V.int (p : Int), V.int ((p : Int) % 4)]) = some (HO.lst [V.int (p : Int), V.int ((p % 4 : Nat) : Int)])
    rw [Int.natCast_emod]
    rfl
/-! ### differ -/
theorem scDiffer : FnScope ["ring", "given", "difference", "square"] ["ring", "given"] (defScope sDiffer) := ⟨rfl, rfl, rfl, by decide +kernel, rfl, by decide +kernel, by decide +kernel⟩
def spDiffer (C : Addr) : Sp := spH C A1' fun gs => .differ (gs.headD 0)
theorem ok_differ {f C : Addr} {fd : FuncData} (F : Fun K "differ" "differ" sDiffer f fd) (T : Txt K mg C) : FnOk P w K mg base CX0 1 f fd ["ring", "given"] (spDiffer C) := by
  refine F.ok scDiffer spH_len (fun cdv A outer s H vs Q E hr h => ?_)
  obtain ⟨r, d, l, g, p, kept, gs, st, rfl, R, S, hg, ⟨hp, x, rfl⟩, k⟩ := h
  have hu := hu_of hr
  obtain ⟨dx, h1⟩ := R.ob
  obtain ⟨hst, G⟩ := S.some_of hp
  obtain ⟨sq, h2, hsq⟩ := R.sq
  obtain ⟨ks, hk, hm⟩ := id hsq
  have k : ∀ (H' : Hp) (q : Addr), Done C H r l (Kp301.step st (.differ x)) H' q → Q (.ref q) H' := k
  obtain ⟨h3, h200⟩ := okP_lt G.ok
  have nrd : r ≠ d := ne_of h1 h2 (by intro z; cases z)
  refine ⟨_, pss_cons (ps_set (i := 2) scDiffer.nd rfl (Or.inr rfl) (pe_ix ix_list (pv 1) pe_int (fun _ _ => rfl)))
    (pss_cons (ps_if (pt_cmpR op_eq (pe_op op_mod (pv 2) (pe_fld (pv 0) rfl)) pe_int (nomark _)) (pss_one (ps_ret (pe_lst (pa_cons (pe_gi T.cNotFit rfl) pa_nil)))) pss_nil)
    (pss_one (ps_ret (pe_lst (pa_cons (pe_callB call_len_seq (by rfl) T.len PySem.boot_len (pa_cons (pe_lock
      (pe_lc rfl scDiffer.nd (pi_keys (pe_fld (pv 0) rfl)) (blkOk_by (own := [("square", 3)]) (by show blkC ["ring", "given", "difference", "square"] (defScope sDiffer) _ _ = true; decide +kernel))
        (fun _ _ _ _ _ => pg_name (i := 3) scDiffer.nd rfl (Or.inl rfl))
        (fun _ _ _ _ _ => pts_one (pt_cmp (pc_din hu (pe_op op_mod (pe_op op_sub (pv 3) (pv 2)) (show PE _ _ (tFld K (tVar 0) "prime") from pe_fld (pv 0) rfl)) (show PE _ _ (tFld K (tVar 0) "squares") from pe_fld (pv 0) rfl))))
        (fun _ _ _ _ _ => pv 3))) pa_nil)) pa_nil))))), ?_⟩
  refine ⟨_, rfl, g, _, _, _, rfl, rfl, SqL.of hg, at_of (j := 0) (v := V.int (x : Int)) rfl rfl, _, rfl, _, rfl, r, C, dx, _, _, rfl, h1, T.cl, T.nP, rf_p _ _ _, _, _, rfl, rfl, (by show (0 : Int) < (p : Int); omega), rfl, _, rfl, ite2 (fun h => ?_) (fun h => ?_)⟩
  · have h4 : (x : Int) % (p : Int) = 0 := V.int.inj (of_decide_eq_true h)
    have h5 : x % p = 0 := Int.ofNat.inj (show ((x % p : Nat) : Int) = 0 by rw [Int.natCast_emod]; exact h4)
    refine ⟨(by show 1 ≤ sizeLine; decide), fun q hq => k _ q (finish S R (v := -22) (m := []) ?_ (same_upd hq) hq upd_same)⟩
    rw [hst]
    unfold Kp301.step
    simp only [h5, if_true]
    rfl
  · have h5 : ¬ x % p = 0 := fun e => h (decide_eq_true (by
      show V.int ((x : Int) % (p : Int)) = V.int 0
      rw [← Int.natCast_emod, e]
      rfl))
    refine ⟨d, .dK sq, h2, trivial, fun od => ?_⟩
    refine ⟨_, rfl, r, C, dx, _, _, rfl, (by rw [upd_ne nrd]; exact h1), T.cl, T.nS, rf_s _ _ _, d, od, rfl, .inl ⟨sq, upd_same, ?_⟩⟩
    intro m hmn
    have ndm : d ≠ m := fun e => by rw [← e, upd_same] at hmn; cases hmn
    have nrm : r ≠ m := fun e => by rw [← e, upd_ne nrd, h1] at hmn; cases hmn
    have hm0 : H m = none := by rw [upd_ne (Ne.symm ndm)] at hmn; exact hmn
    generalize hH3 : upd H d (.frz od (.dK sq)) = H3 at hmn
    have g1 : H3 d = some (.frz od (.dK sq)) := by rw [← hH3, upd_same]
    have g2 : H3 r = some (.ins C dx (rf p d l)) := by rw [← hH3, upd_ne nrd]; exact h1
    have hkl := keys_small hk fun z hz => ((hm z).mp hz).1
    refine lc_keys (fun i H' => H' = upd H3 m (.lst (nI ((ks.take i).filter fun s => Kp297.kind p ((s + p - x % p) % p) == 1)))) rfl (fun i H' _ e => by rw [e, upd_ne ndm]; exact g1) ?_ ?_
    · rintro i k0 v0 H' hi rfl
      obtain ⟨s, hs, rfl⟩ := hk.get hi
      have hsp : s < p := ((hm s).mp (List.mem_of_getElem? hs)).1
      have hil : i < ks.length := (List.getElem?_eq_some_iff.mp hs).1
      have hz : (s + p - x % p) % p < p := Nat.mod_lt _ (by omega)
      have e : (valV sq (Sum.inl (((s : Int) - (x : Int)) % (p : Int)))).isSome = (Kp297.kind p ((s + p - x % p) % p) == 1) := by
        rw [emod_sub (by omega) hsp]
        exact hsq.has _ hz
      refine ⟨rfl, _, rfl, _, rfl, _, _, rfl, rfl, _, rfl, r, C, dx, _, _, rfl, (by rw [upd_ne nrm]; exact g2), T.cl, T.nP, rf_p _ _ _, _, _, rfl, rfl, (by show (0 : Int) < (p : Int); omega), _, rfl, r, C, dx, _, _, rfl, (by rw [upd_ne nrm]; exact g2), T.cl, T.nS, rf_s _ _ _, d, _, rfl, .inl ⟨sq, Sum.inl (((s : Int) - (x : Int)) % (p : Int)), .inr ⟨od, by rw [upd_ne ndm]; exact g1⟩, rfl, rfl⟩, _, rfl, ?_⟩
      rw [e]
      cases hb : (Kp297.kind p ((s + p - x % p) % p) == 1) with
      | false =>
        refine iteF ?_
        rw [take_snoc hs, filter_snoc, hb]
        simp
      | true =>
        refine iteT ⟨_, rfl, _, upd_same, ?_, ?_⟩
        · rw [nI_len]
          refine Nat.lt_of_le_of_lt (Nat.le_trans (List.length_filter_le ..) ?_) (show 200 < sizeLine by decide)
          rw [List.length_take]
          rw [hk.len] at hkl
          omega
        · rw [upd_upd, take_snoc hs, filter_snoc, hb, nI_app]
          rfl
    · rintro H' rfl
      rw [hk.len, List.take_length]
      have sm : Same H (upd (upd H3 m (.lst (nI (ks.filter fun s => Kp297.kind p ((s + p - x % p) % p) == 1)))) d (.dK sq)) := fun b o e => by
        by_cases hb : b = d
        · rw [hb, upd_same, ← h2, ← hb]
          exact e
        · rw [upd_ne hb, upd_ne (ne_of_none e hm0), ← hH3, upd_ne hb]
          exact e
      refine ⟨(by rw [upd_ne ndm]; exact g1), m, _, rfl, .inl (SqL.of (by rw [upd_ne (Ne.symm ndm)]; exact upd_same)), (by show 1 ≤ sizeLine; decide), fun q hq => k _ q (finish S R (v := (Kp301.differ p x : Nat)) (m := []) ?_ (sm.trans (same_upd hq)) (sm.free hq) ?_)⟩
      · rw [hst]
        unfold Kp301.step
        simp only [h5, if_false]
        rfl
      · rw [upd_same, nI_len, differ_eq G.ok hk.nd hm]
        rfl
end
end Px
set_option Elab.async false
set_option linter.all false
set_option maxRecDepth 100000
set_option maxHeartbeats 2000000
namespace Px
open PySem PySem.Spec PyProof.Rows L2
def takenOf (σ : L2.St) : Nat := match σ[4]? with
  | some (some (V.int z)) => z.toNat
  | _ => 0
section
variable {P : Program} {w : World} {K : PySem.W.Frag} {mg : Str → Option Value} {base : Heap}
/-! ### steps -/
theorem scSteps : FnScope ["ring", "given", "source", "target", "taken", "reached"] ["ring", "given"] (defScope sSteps) := ⟨rfl, rfl, rfl, by decide +kernel, rfl, by decide +kernel, by decide +kernel⟩
def spSteps (C : Addr) : Sp := spH C A2 fun gs => .steps (gs.getD 0 0) (gs.getD 1 0)
theorem ok_steps {f C : Addr} {fd : FuncData} (F : Fun K "steps" "steps" sSteps f fd) (T : Txt K mg C) (DA : Dfn P w K mg base 1 "led_to_by_any" ["ring", "sources"] (spLedByAny C)) : FnOk P w K mg base CX0 2 f fd ["ring", "given"] (spSteps C) := by
  refine F.ok scSteps spH_len (fun cdv A outer s H vs Q E hr h => ?_)
  obtain ⟨r, d, l, g, p, kept, gs, st, rfl, R, S, hg, ⟨hp, x, y, rfl, hx, hy⟩, k⟩ := h
  have hu := hu_of hr
  obtain ⟨hst, G⟩ := S.some_of hp
  have k : ∀ (H' : Hp) (q : Addr), Done C H r l (Kp301.step st (.steps x y)) H' q → Q (.ref q) H' := k
  obtain ⟨h3, h200⟩ := okP_lt G.ok
  have hxy : ¬ (p ≤ x ∨ p ≤ y) := by omega
  obtain ⟨sq, h2, hsq⟩ := R.sq
  refine ⟨_, pss_cons (ps_set (i := 2) scSteps.nd rfl (Or.inl rfl) (pe_ix ix_list (pv 1) pe_int (fun _ _ => rfl)))
    (pss_cons (ps_set (i := 3) scSteps.nd rfl (Or.inl rfl) (pe_ix ix_list (pv 1) pe_int (fun _ _ => rfl)))
    (pss_cons (ps_set (i := 4) scSteps.nd rfl (Or.inl rfl) pe_int)
    (pss_cons (ps_set (i := 5) scSteps.nd rfl (Or.inl rfl) (pe_disp (pps_cons (pv 2) pe_bl pps_nil) rfl rfl (by intro z; cases z) (by decide)))
    (pss_cons (ps_while PassesOwn.never (pt_cmp (pc_dnotin hu (pv 3) (pv 5)))
      (pss_cons (ps_set (i := 5) scSteps.nd rfl (Or.inl rfl) (pe_D DA hr rfl (pa_cons (pv 0) (pa_cons (pv 5) pa_nil))))
      (pss_one (ps_aug (i := 4) scSteps.nd rfl (Or.inl rfl) pe_int ip_add))))
    (pss_one (ps_ret (pe_lst (pa_cons (pv 4) pa_nil)))))))), ?_⟩
  refine ⟨_, rfl, g, _, _, _, rfl, rfl, SqL.of hg, at_of (j := 0) (v := V.int (x : Int)) rfl rfl, _, rfl, g, _, _, _, rfl, rfl, SqL.of hg, at_of (j := 1) (v := V.int (y : Int)) rfl rfl, ?_⟩
  intro a ha
  refine ⟨_, rfl, upd_same, [(keyN x, .bl true)], rfl, (by show 1 ≤ 15; decide), ?_⟩
  rw [upd_upd]
  have k0 : KeysN (mergeK [] [(keyN x, V.bl true)]) [x] := ⟨rfl, by simp⟩
  refine while_by (fun σ H' => ∃ (t : Nat) (b : Addr) (kvs : List (Key × V)) (ks : List Nat), σ = [some (.ref r), some (.ref g), some (.int (x : Int)), some (.int (y : Int)), some (.int (t : Int)), some (.ref b)] ∧ Same H H' ∧ H' b = some (.dK kvs) ∧ b ≠ d ∧ KeysN kvs ks ∧ Lay p x y t ks)
    (fun σ _ => 2 - takenOf σ)
    ⟨0, a, _, [x], rfl, same_upd ha, upd_same, fun e => (by rw [e, h2] at ha; cases ha), k0, Lay.zero hx⟩ ?_ ?_
  · rintro σ H' ⟨t, b, kvs, ks, rfl, sm, hb, nbd, hk, L⟩
    refine ⟨_, rfl, _, rfl, b, _, rfl, DGet.k (k := keyN y) hb, _, rfl, ?_⟩
    cases e : (valV kvs (keyN y)).isSome with
    | false =>
      have hn : y ∉ ks := fun m => by
        have := (hk.val y).mpr m
        rw [e] at this
        cases this
      refine iteT ⟨_, rfl, _, rfl, r, d, l, b, p, kept, kvs, ks, rfl, R.same sm, by omega, h200, hb, nbd, hk, L.lt, fun H2 q kvs' ks' s2 hq hq2 hk' hm' => ?_⟩
      have nqd : q ≠ d := fun z => by rw [z, sm _ _ h2] at hq; cases hq
      have ht := L.small hn
      refine ⟨_, rfl, _, _, rfl, rfl, ⟨t + 1, q, kvs', ks', rfl, sm.trans s2, hq2, nqd, hk', L.next G.ok hx hy hn hm'⟩, ?_⟩
      show 2 - ((t : Int) + 1).toNat < 2 - ((t : Int)).toNat
      omega
    | true =>
      have hm : y ∈ ks := (hk.val y).mp e
      have ht := L.done hy hm
      refine iteF ⟨_, rfl, (by show 1 ≤ sizeLine; decide), fun q hq => k _ q (finish S R (v := (Kp301.steps p x y : Nat)) (m := []) ?_ (sm.trans (same_upd hq)) (sm.free hq) ?_)⟩
      · rw [hst]
        unfold Kp301.step
        simp only [hxy, if_false]
        rfl
      · rw [upd_same, ht]
        rfl
  · rintro σ H' Q1 Q2 himp ⟨x1, h1, x2, h2, a1, o1, h3, h4, b1, h5, h6⟩
    exact ⟨x1, h1, x2, h2, a1, o1, h3, h4, b1, h5, himp _ _ h6⟩

end
end Px
set_option Elab.async false
set_option linter.all false
set_option maxRecDepth 100000
set_option maxHeartbeats 2000000
namespace Px
open PySem PySem.Spec PyProof.Rows L2
/-- two ways that go on alike, but for one address -/
theorem ite_rest {c : Prop} [Decidable c] {A : Prop} {D : Ends} {H : Hp} (S : Addr → L2.St) (x y : Addr) (Pr : Addr → Prop) (hA : D.nx (S y) H → A) (hy : c → Pr y) (hx : ¬ c → Pr x) (rest : ∀ z, Pr z → D.nx (S z) H) : if c then A else tNext D (S x) H :=
  ite2 (fun h => hA (rest y (hy h))) fun h => rest x (hx h)
theorem cut_from (l : List Nat) (i : Nat) (h : i + 1 ≤ l.length) : cutV (nI l) (some ((i : Int) + 1)) none = nI (l.drop (i + 1)) := by
  have e1 : HT.sIx (nI l).length 0 (some ((i : Int) + 1)) = i + 1 := by
    have e : (i : Int) + 1 = ((i + 1 : Nat) : Int) := by omega
    rw [nI_len, e, HT.sIx_nat, Nat.min_eq_left h]
  have e2 : HT.sIx (nI l).length (nI l).length none = l.length := by rw [nI_len]; rfl
  unfold cutV
  rw [e1, e2]
  unfold nI
  rw [← List.map_drop]
  have e3 : l.length - (i + 1) = ((l.drop (i + 1)).map fun (n : Nat) => V.int (n : Int)).length := by rw [List.length_map, List.length_drop]
  rw [e3, List.take_length]
section
variable {P : Program} {w : World} {K : PySem.W.Frag} {mg : Str → Option Value} {base : Heap}
/-! ### greatest_group_upon -/
abbrev gN : List Str := ["ring", "members", "fitting", "best", "at", "point", "still_fitting", "later"]
abbrev gPs : List Str := ["ring", "members", "fitting", "best"]
def spUpon (C : Addr) (n : Nat) : Sp := fun vs H Q _ => ∃ (r d l a b c : Addr) (p f : Nat) (kept ms fs bs : List Nat), vs = [.ref r, .ref a, .ref b, .ref c] ∧ RingAt C H r d l p kept ∧ Kp301.okP p = true ∧ p % 4 = 1 ∧
  H a = some (.lst (nI ms)) ∧ H b = some (.lst (nI fs)) ∧ H c = some (.lst (nI bs)) ∧ Cl p ms ∧ Fits p ms fs ∧ fs.length < n ∧ fs.length ≤ 200 ∧ bs.length ≤ 1000 ∧ 16 ≤ f + ms.length ∧
  ∀ (H' : Hp) (q : Addr), Same H H' → H' q = some (.lst (nI (Kp301.longer bs (Kp301.grow (Kp301.where_ p) p f ms fs)))) → Q (.ref q) H'
theorem scUpon : FnScope gN gPs (defScope sGroupUpon) := ⟨rfl, rfl, rfl, by decide +kernel, rfl, by decide +kernel, by decide +kernel⟩
theorem upon_len {C : Addr} {n : Nat} : ∀ vs H Q E, spUpon C n vs H Q E → vs.length = gPs.length := fun vs H Q E h => by
  obtain ⟨r, d, l, a, b, c, p, f, kept, ms, fs, bs, rfl, _⟩ := h
  rfl
theorem ok_upon {f C : Addr} {fd : FuncData} (F : Fun K "greatest_group_upon" "greatest_group_upon" sGroupUpon f fd) (T : Txt K mg C) (DL : Dfn P w K mg base 1 "leads_to" ["ring", "source", "target"] (spLeadsTo C))
    (hD : ∀ (k : Nat) (sp : Sp), FnOk P w K mg base CX0 k f fd gPs sp → Dfn P w K mg base k "greatest_group_upon" gPs sp) :
    ∀ n, FnOk P w K mg base CX0 (n + 1) f fd gPs (spUpon C n) := by
  intro n
  induction n with
  | zero =>
    refine F.ok scUpon upon_len (fun cdv A outer s H vs Q E hr h => ?_)
    obtain ⟨r, d, l, a, b, c, p, f, kept, ms, fs, bs, rfl, R, hp, h4, ha, hb, hc, hcl, hfit, hn, _⟩ := h
    exact absurd hn (Nat.not_lt_zero _)
  | succ n ih =>
    have DG := hD _ _ ih
    refine F.ok scUpon upon_len (fun cdv A outer s H vs Q E hr h => ?_)
    obtain ⟨r, d, l, a, b, c, p, f, kept, ms, fs, bs, rfl, R, hp, h4, ha, hb, hc, hcl, hfit, hn, h200, h1000, hf, k⟩ := h
    have hr1 : Room 1 _ := hr.mono (by omega)
    obtain ⟨h3, hp200⟩ := okP_lt hp
    have hms := hcl.small hp h4
    obtain ⟨f', rfl⟩ : ∃ f', f = f' + 1 := ⟨f - 1, by omega⟩
    rw [grow_succ] at k
    have hG : ∀ j, j < fs.length → (nextG p f' ms fs j).length ≤ ms.length + (fs.length - j) := next_len p f' ms fs
    refine ⟨_, pss_cons (ps_if (pt_cmpR op_gt (pe_callB call_len_seq (by rfl) T.len PySem.boot_len (pa_cons (pv 1) pa_nil)) (pe_callB call_len_seq (by rfl) T.len PySem.boot_len (pa_cons (pv 3) pa_nil)) (nomark _)) (pss_one (ps_set (i := 3) scUpon.nd rfl (Or.inl rfl) (pv 1))) pss_nil)
      (pss_cons (ps_for PassesOwn.never rfl (pi_enum rfl T.enum (pa_cons (pv 2) pa_nil)) (pg_tup rfl (pgs_cons (pg_name (i := 4) scUpon.nd rfl (Or.inl rfl)) (pgs_cons (pg_name (i := 5) scUpon.nd rfl (Or.inr rfl)) pgs_nil)))
        (pss_cons (ps_if (pt_cmpR op_le (pe_op op_sub (pe_op op_add (pe_callB call_len_seq (by rfl) T.len PySem.boot_len (pa_cons (pv 1) pa_nil)) (pe_callB call_len_seq (by rfl) T.len PySem.boot_len (pa_cons (pv 2) pa_nil))) (pv 4)) (pe_callB call_len_seq (by rfl) T.len PySem.boot_len (pa_cons (pv 3) pa_nil)) (nomark _)) (pss_one ps_break) pss_nil)
        (pss_cons (ps_setLc (i := 6) rfl scUpon.nd rfl rfl (sw_true rfl rfl rfl rfl) (pi_list (pe_slice sl_list (pv 2) (po_some (pe_op op_add (pv 4) pe_int)) po_none)) (blkOk_by (own := [("later", 7)]) (by show blkC gN (defScope sGroupUpon) _ _ = true; decide +kernel))
          (fun _ _ _ _ _ => pg_name (i := 7) scUpon.nd rfl (Or.inl rfl))
          (fun _ _ _ _ _ => pts_one (pt_val (pe_D DL hr1 rfl (pa_cons (pv 0) (pa_cons (pv 5) (pa_cons (pv 7) pa_nil))))))
          (fun _ _ _ _ _ => pv 7))
        (pss_one (ps_set (i := 3) scUpon.nd rfl (Or.inl rfl) (pe_D DG hr rfl (pa_cons (pv 0) (pa_cons (pe_op op_cat (pv 1) (pe_lst (pa_cons (pv 5) pa_nil))) (pa_cons (pv 6) (pa_cons (pv 3) pa_nil))))))))))
      (pss_one (ps_ret (pv 3)))), ?_⟩
    refine ⟨_, rfl, a, _, rfl, .inl (SqL.of ha), _, rfl, c, _, rfl, .inl (SqL.of hc), _, _, rfl, rfl, _, rfl, ?_⟩
    show if (_ : Bool) = true then _ else _
    refine ite_rest (fun z => L2.start gN [V.ref r, V.ref a, V.ref b, V.ref z]) c a (fun z => H z = some (.lst (nI (Kp301.longer bs ms)))) (fun h => ⟨_, rfl, h⟩) (fun h => ?_) (fun h => ?_) (fun z hz => ?_)
    · have h : ((nI bs).length : Int) < ((nI ms).length : Int) := of_decide_eq_true h
      rw [nI_len, nI_len] at h
      unfold Kp301.longer
      rw [if_pos (by omega)]
      exact ha
    · have h : ¬ ((nI bs).length : Int) < ((nI ms).length : Int) := fun q => h (decide_eq_true q)
      rw [nI_len, nI_len] at h
      unfold Kp301.longer
      rw [if_neg (by omega)]
      exact hc
    refine ⟨_, rfl, b, _, rfl, SqL.of hb, ?_⟩
    refine for_enum (K := K) (a := b) (xs := nI fs) (fun i σ H' => Same H H' ∧ ∃ z v4 v5 v6, σ = [some (.ref r), some (.ref a), some (.ref b), some (.ref z), v4, v5, v6, none] ∧ H' z = some (.lst (nI (Kp301.longer bs (goTo ms fs.length (nextG p f' ms fs) i)))))
      ⟨Same.refl H, z, none, none, none, rfl, hz⟩ (fun i σ H' _ ⟨e, _⟩ => e.seq (SqL.of hb)) ?_ ?_
    · rintro i x0 σ H' T0 hi ⟨sm, z, v4, v5, v6, rfl, hz⟩ hT0
      obtain ⟨y, hy, rfl⟩ := nI_get hi
      have hil : i < fs.length := (List.getElem?_eq_some_iff.mp hy).1
      obtain ⟨hyp, hyl⟩ := hfit y (List.mem_of_getElem? hy)
      have s1 : Same H' (upd H' T0 (.tup [.int (i : Nat), .int (y : Int)])) := same_upd hT0
      have sm1 := sm.trans s1
      refine ⟨T0, _, rfl, SqT.of upd_same, rfl, _, _, rfl, _, _, rfl, rfl, ?_⟩
      refine ⟨_, rfl, a, _, rfl, .inl (SqL.of (sm1 _ _ ha)), _, rfl, b, _, rfl, .inl (SqL.of (sm1 _ _ hb)), _, _, rfl, rfl, _, rfl, _, _, rfl, rfl, _, rfl, z, _, rfl, .inl (SqL.of (s1 _ _ hz)), _, _, rfl, rfl, _, rfl, ite2 (fun h => ?_) (fun h => ?_)⟩
      · have h : ((nI ms).length : Int) + ((nI fs).length : Int) - (i : Int) ≤ ((nI (Kp301.longer bs (goTo ms fs.length (nextG p f' ms fs) i))).length : Int) := of_decide_eq_true h
        rw [nI_len, nI_len, nI_len] at h
        refine ⟨_, rfl, k _ z sm1 ?_⟩
        rw [go_break hG (Nat.le_of_lt hil) (by omega)]
        exact s1 _ _ hz
      · have h : ¬ ((nI ms).length : Int) + ((nI fs).length : Int) - (i : Int) ≤ ((nI (Kp301.longer bs (goTo ms fs.length (nextG p f' ms fs) i))).length : Int) := fun q => h (decide_eq_true q)
        rw [nI_len, nI_len, nI_len] at h
        refine ⟨_, rfl, _, rfl, _, _, rfl, rfl, _, rfl, b, _, rfl, SqL.of (sm1 _ _ hb), fun t ht => ?_⟩
        have s2 := same_upd (o := .lst (cutV (nI fs) (some ((i : Int) + 1)) none)) ht
        refine ⟨t, rfl, ⟨_, SqL.of upd_same⟩, ?_⟩
        intro m hm
        have s3 : ∀ o, Same _ (upd _ m o) := fun o => same_upd (o := o) hm
        refine lc_list (K := K) (a := t) (xs := nI (fs.drop (i + 1))) (fun j H2 => H2 = upd (upd (upd H' T0 (.tup [.int (i : Nat), .int (y : Int)])) t (.lst (cutV (nI fs) (some ((i : Int) + 1)) none))) m (.lst (nI (((fs.drop (i + 1)).take j).filter (Kp301.leads p y))))) rfl (fun j H2 _ e => by
          rw [e]
          refine (s3 _).seq (SqL.of ?_)
          rw [upd_same, cut_from fs i hil]) ?_ ?_
        · rintro j x1 H2 hj rfl
          obtain ⟨u, hu, rfl⟩ := nI_get hj
          have hjl : j < (fs.drop (i + 1)).length := (List.getElem?_eq_some_iff.mp hu).1
          rw [List.length_drop] at hjl
          refine ⟨rfl, _, rfl, _, rfl, _, rfl, r, d, l, p, kept, y, u, rfl, ((R.same sm1).same s2).same (s3 _), hyp, _, rfl, ?_⟩
          cases e : Kp301.leads p y u with
          | false =>
            refine iteF ?_
            rw [take_snoc hu, filter_snoc, e]
            simp
          | true =>
            refine iteT ⟨_, rfl, _, upd_same, ?_, ?_⟩
            · rw [nI_len]
              refine Nat.lt_of_le_of_lt (Nat.le_trans (List.length_filter_le ..) ?_) (show 1000 < sizeLine by decide)
              rw [List.length_take]
              omega
            · rw [upd_upd, take_snoc hu, filter_snoc, e, nI_app]
              rfl
        · rintro H2 rfl
          rw [nI_len, List.take_length]
          have sm3 := (sm1.trans s2).trans (s3 (.lst (nI ((fs.drop (i + 1)).filter (Kp301.leads p y)))))
          have hz3 := s3 (.lst (nI ((fs.drop (i + 1)).filter (Kp301.leads p y)))) _ _ (s2 _ _ (s1 _ _ hz))
          have hm3 : upd (upd (upd H' T0 (.tup [.int (i : Nat), .int (y : Int)])) t (.lst (cutV (nI fs) (some ((i : Int) + 1)) none))) m (.lst (nI ((fs.drop (i + 1)).filter (Kp301.leads p y)))) m = some (.lst (nI ((fs.drop (i + 1)).filter (Kp301.leads p y)))) := upd_same
          generalize upd (upd (upd H' T0 (.tup [.int (i : Nat), .int (y : Int)])) t (.lst (cutV (nI fs) (some ((i : Int) + 1)) none))) m (.lst (nI ((fs.drop (i + 1)).filter (Kp301.leads p y)))) = H3 at sm3 hz3 hm3
          have hlf : ((fs.drop (i + 1)).filter (Kp301.leads p y)).length ≤ fs.length - (i + 1) := by
            have := List.length_filter_le (Kp301.leads p y) (fs.drop (i + 1))
            rw [List.length_drop] at this
            exact this
          refine ⟨_, rfl, _, rfl, _, rfl, (by show 1 ≤ sizeLine; decide), fun t1 ht1 => ?_⟩
          have s4 := same_upd (o := .lst [V.int (y : Int)]) ht1
          refine ⟨a, t1, _, _, rfl, rfl, s4 _ _ (sm3 _ _ ha), upd_same, (by rw [nI_len]; exact Nat.le_trans (Nat.add_le_add_right hms 1) (by decide)), fun t2 ht2 => ?_⟩
          have s5 := same_upd (o := .lst (nI ms ++ [V.int (y : Int)])) ht2
          have s45 := s4.trans s5
          have e2 : nI ms ++ [V.int (y : Int)] = nI (ms ++ [y]) := (nI_app ms [y]).symm
          refine ⟨_, rfl, _, rfl, r, d, l, t2, m, z, p, f', kept, ms ++ [y], _, _, rfl, (R.same sm3).same s45, hp, h4, (by rw [upd_same, e2]), s45 _ _ hm3, s45 _ _ hz3, hcl.snoc hyp hyl, hfit.next hy, by omega, by omega, ?_, ?_, fun H4 q s6 hq => ?_⟩
          · rw [longer_len]
            have := goTo_len hG i (Nat.le_of_lt hil)
            omega
          · rw [List.length_append, List.length_singleton]
            omega
          · refine ⟨(sm3.trans s45).trans s6, q, _, _, _, rfl, ?_⟩
            rw [hq, ← nextG_eq (by omega) hy hyp, go_turn (by omega)]
    · rintro σ H' ⟨sm, z, v4, v5, v6, rfl, hz⟩
      rw [nI_len] at hz
      exact ⟨_, rfl, k _ z sm hz⟩
/-! ### greatest -/
theorem scGreatest : FnScope ["ring", "given"] ["ring", "given"] (defScope sGreatest) := ⟨rfl, rfl, rfl, by decide +kernel, rfl, by decide +kernel, by decide +kernel⟩
def spGreatest (C : Addr) : Sp := spH C A0 fun _ => .greatest
theorem ok_greatest {f C : Addr} {fd : FuncData} (F : Fun K "greatest" "greatest" sGreatest f fd) (T : Txt K mg C) (DC : DCounted P w K mg base) (DB : Dfn P w K mg base 1 "leads_both_ways" ["ring"] (spBoth C)) (DL : DLedBy P w K mg base C)
    (DG : Dfn P w K mg base 202 "greatest_group_upon" gPs (spUpon C 201)) : FnOk P w K mg base CX0 203 f fd ["ring", "given"] (spGreatest C) := by
  refine F.ok scGreatest spH_len (fun cdv A outer s H vs Q E hr h => ?_)
  obtain ⟨r, d, l, g, p, kept, gs, st, rfl, R, S, hg, ⟨hp, rfl⟩, k⟩ := h
  obtain ⟨hst, G⟩ := S.some_of hp
  have k : ∀ (H' : Hp) (q : Addr), Done C H r l (Kp301.step st .greatest) H' q → Q (.ref q) H' := k
  obtain ⟨h3, h200⟩ := okP_lt G.ok
  have hr1 : Room 1 _ := hr.mono (by decide)
  have hr3 : Room 3 _ := hr.mono (by decide)
  refine ⟨_, pss_cons (ps_if (pt_not (pt_val (pe_D DB hr1 rfl (pa_cons (pv 0) pa_nil)))) (pss_one (ps_ret (pe_lst (pa_cons (pe_gi T.cNobody rfl) pa_nil)))) pss_nil)
    (pss_one (ps_ret (pe_D DC hr1 rfl (pa_cons (pe_D DG hr rfl (pa_cons (pv 0) (pa_cons (pe_lst (pa_cons pe_int (pa_cons pe_int pa_nil))) (pa_cons (pe_D DL hr3 rfl (pa_cons (pv 0) (pa_cons (pe_lst (pa_cons pe_int (pa_cons pe_int pa_nil))) pa_nil))) (pa_cons (pe_lst pa_nil) pa_nil))))) pa_nil)))), ?_⟩
  refine ⟨_, rfl, r, d, l, p, kept, rfl, R, _, rfl, ?_⟩
  rcases odd_four G.ok with h4 | h4
  · rw [decide_eq_true h4]
    refine iteF ?_
    refine ⟨_, rfl, (by show 2 ≤ sizeLine; decide), fun a ha => ?_⟩
    have s1 := same_upd (o := .lst (nI [0, 1])) ha
    refine ⟨_, rfl, (by show 2 ≤ sizeLine; decide), fun a2 ha2 => ?_⟩
    have s2 := same_upd (o := .lst (nI [0, 1])) ha2
    refine ⟨r, d, l, a2, p, kept, [0, 1], rfl, (R.same s1).same s2, h200, SqL.of upd_same, fun z hz => (start_cl G.ok).lt z hz, fun b hb => ?_⟩
    have s3 := same_upd (o := .lst (nI ((List.range p).filter fun y => [0, 1].all fun x => Kp301.leads p x y))) hb
    refine ⟨Nat.zero_le _, fun c hc => ?_⟩
    have s4 := same_upd (o := .lst []) hc
    have s14 := ((s1.trans s2).trans s3).trans s4
    have hfl : ((List.range p).filter fun y => [0, 1].all fun x => Kp301.leads p x y).length ≤ p := filter_len p
    refine ⟨r, d, l, a, b, c, p, 14, kept, [0, 1], _, [], rfl, R.same s14, G.ok, h4, s4 _ _ (s3 _ _ (s2 _ _ upd_same)), s4 _ _ upd_same, upd_same, start_cl G.ok, start_fits, by omega, by omega, Nat.zero_le _, by decide, fun H' q sm hq => ?_⟩
    rw [← greatest_eq G.ok] at hq
    refine ⟨q, _, rfl, hq, greatest_len G.ok, fun H2 q2 sm2 hq2 hans => k _ q2 (finish_tell S R (xs := Kp301.greatest p) ?_ ((s14.trans sm).trans sm2) ((s14.trans sm).free hq2) hans)⟩
    rw [hst]
    unfold Kp301.step
    have h43 : ¬ p % 4 = 3 := by omega
    simp only [h43, if_false]
  · have h41 : ¬ p % 4 = 1 := by omega
    rw [decide_eq_false h41]
    refine iteT ⟨(by show 1 ≤ sizeLine; decide), fun q hq => k _ q (finish S R (v := -33) (m := []) ?_ (same_upd hq) hq upd_same)⟩
    rw [hst]
    unfold Kp301.step
    simp only [h4, if_true]
    rfl
end
end Px
set_option Elab.async false
set_option linter.all false
set_option maxRecDepth 100000
set_option maxHeartbeats 2000000
/-! How the flat list of calls is read, and each call by its number: of the specification alone. -/
namespace Px
/-- how many numbers a call has behind its own -/
def argc (j : Nat) : Nat := [1, 1, 1, 0, 1, 1, 0, 2, 1, 2, 2, 1, 1, 0, 0, 0, 0, 2, 0].getD j 0
theorem shape_nat : ∀ j : Nat, j ≤ 18 → PyKp301.shape (j : Int) = some (argc j, 0) := by
  intro j hj
  match j, hj with
  | 0, _ => rfl | 1, _ => rfl | 2, _ => rfl | 3, _ => rfl | 4, _ => rfl | 5, _ => rfl | 6, _ => rfl | 7, _ => rfl | 8, _ => rfl | 9, _ => rfl
  | 10, _ => rfl | 11, _ => rfl | 12, _ => rfl | 13, _ => rfl | 14, _ => rfl | 15, _ => rfl | 16, _ => rfl | 17, _ => rfl | 18, _ => rfl
  | j + 19, hj => omega
theorem shape_out {p : Int} (h : ¬ (0 ≤ p ∧ p ≤ 18)) : PyKp301.shape p = none := by
  unfold PyKp301.shape
  repeat rw [if_neg (by omega)]
theorem calls_nil {f : Nat} {cs : List (List (List Int))} (h : PyFlat.calls PyKp301.shape f [] = some cs) : cs = [] := by
  cases f <;> exact (Option.some.inj h).symm
theorem calls_cons {f : Nat} {p : Int} {r : List Int} {cs : List (List (List Int))} (h : PyFlat.calls PyKp301.shape f (p :: r) = some cs) :
    ∃ (j f' : Nat) (cs' : List (List (List Int))), p = (j : Int) ∧ j ≤ 18 ∧ argc j ≤ r.length ∧ cs = [p :: r.take (argc j)] :: cs' ∧ PyFlat.calls PyKp301.shape f' (r.drop (argc j)) = some cs' := by
  cases f with
  | zero => cases h
  | succ f =>
    unfold PyFlat.calls at h
    by_cases hp : 0 ≤ p ∧ p ≤ 18
    · obtain ⟨j, rfl⟩ : ∃ j : Nat, p = (j : Int) := ⟨p.toNat, by omega⟩
      have hj : j ≤ 18 := by omega
      have e : PyFlat.call PyKp301.shape ((j : Int) :: r) = if r.length < argc j then none else some ([(j : Int) :: r.take (argc j)], r.drop (argc j)) := by
        unfold PyFlat.call
        dsimp only
        rw [shape_nat j hj]
        rfl
      rw [e] at h
      by_cases hl : r.length < argc j
      · rw [if_pos hl] at h
        cases h
      · rw [if_neg hl] at h
        cases e2 : PyFlat.calls PyKp301.shape f (r.drop (argc j)) with
        | none =>
          simp only [e2] at h
          cases h
        | some cs' =>
          simp only [e2] at h
          exact ⟨j, f, cs', rfl, hj, by omega, (Option.some.inj h).symm, e2⟩
    · have e : PyFlat.call PyKp301.shape (p :: r) = none := by
        unfold PyFlat.call
        dsimp only
        rw [shape_out hp]
      rw [e] at h
      cases h
/-- the call of a number -/
def mkCall (j : Nat) (gs : List Nat) : Kp301.Call := match j with
  | 0 => .begin_ (gs.headD 0)
  | 1 => .put (gs.headD 0)
  | 2 => .take (gs.headD 0)
  | 3 => .kept
  | 4 => .move (gs.headD 0)
  | 5 => .times (gs.headD 0)
  | 6 => .grow
  | 7 => .leads (gs.getD 0 0) (gs.getD 1 0)
  | 8 => .of_ (gs.headD 0)
  | 9 => .common (gs.getD 0 0) (gs.getD 1 0)
  | 10 => .into (gs.getD 0 0) (gs.getD 1 0)
  | 11 => .rounds (gs.headD 0)
  | 12 => .differ (gs.headD 0)
  | 13 => .who
  | 14 => .inner
  | 15 => .group
  | 16 => .greatest
  | 17 => .steps (gs.getD 0 0) (gs.getD 1 0)
  | _ => .told
theorem len0 {l : List Nat} (h : l.length = 0) : l = [] := List.length_eq_zero_iff.mp h
theorem len1 {l : List Nat} (h : l.length = 1) : ∃ a, l = [a] := by
  match l, h with
  | [a], _ => exact ⟨a, rfl⟩
theorem len2 {l : List Nat} (h : l.length = 2) : ∃ a b, l = [a, b] := by
  match l, h with
  | [a, b], _ => exact ⟨a, b, rfl⟩
def intsN (gs : List Nat) : List Int := gs.map fun (n : Nat) => (n : Int)
theorem call_of : ∀ (j : Nat) (gs : List Nat), j ≤ 18 → gs.length = argc j → Kp301Neutral.callOf (PyKp301.whole [(j : Int) :: intsN gs]) = some (mkCall j gs) := by
  intro j gs hj hl
  match j, hj, hl with
  | 0, _, hl => obtain ⟨a, rfl⟩ := len1 hl; rfl
  | 1, _, hl => obtain ⟨a, rfl⟩ := len1 hl; rfl
  | 2, _, hl => obtain ⟨a, rfl⟩ := len1 hl; rfl
  | 3, _, hl => obtain rfl := len0 hl; rfl
  | 4, _, hl => obtain ⟨a, rfl⟩ := len1 hl; rfl
  | 5, _, hl => obtain ⟨a, rfl⟩ := len1 hl; rfl
  | 6, _, hl => obtain rfl := len0 hl; rfl
  | 7, _, hl => obtain ⟨a, b, rfl⟩ := len2 hl; rfl
  | 8, _, hl => obtain ⟨a, rfl⟩ := len1 hl; rfl
  | 9, _, hl => obtain ⟨a, b, rfl⟩ := len2 hl; rfl
  | 10, _, hl => obtain ⟨a, b, rfl⟩ := len2 hl; rfl
  | 11, _, hl => obtain ⟨a, rfl⟩ := len1 hl; rfl
  | 12, _, hl => obtain ⟨a, rfl⟩ := len1 hl; rfl
  | 13, _, hl => obtain rfl := len0 hl; rfl
  | 14, _, hl => obtain rfl := len0 hl; rfl
  | 15, _, hl => obtain rfl := len0 hl; rfl
  | 16, _, hl => obtain rfl := len0 hl; rfl
  | 17, _, hl => obtain ⟨a, b, rfl⟩ := len2 hl; rfl
  | 18, _, hl => obtain rfl := len0 hl; rfl
  | j + 19, hj, _ => omega
theorem step_of {j : Nat} {gs : List Nat} (st : Kp301.State) (hj : j ≤ 18) (hl : gs.length = argc j) :
    Kp301Neutral.step st (PyKp301.whole [(j : Int) :: intsN gs]) = ((Kp301.step st (mkCall j gs)).1, (Kp301.step st (mkCall j gs)).2.num :: (Kp301.step st (mkCall j gs)).2.nums) := by
  unfold Kp301Neutral.step
  rw [call_of j gs hj hl]
/-- what is told from a state on -/
def toldFrom (st : Kp301.State) (cs : List (List (List Int))) : List Int := PyFlat.told (PyFlat.played Kp301Neutral.step st (cs.map PyKp301.whole))
theorem told_nil (st : Kp301.State) : toldFrom st [] = [] := rfl
theorem told_cons {j : Nat} {gs : List Nat} {cs : List (List (List Int))} (st : Kp301.State) (hj : j ≤ 18) (hl : gs.length = argc j) :
    toldFrom st ([(j : Int) :: intsN gs] :: cs) = (((Kp301.step st (mkCall j gs)).2.num :: (Kp301.step st (mkCall j gs)).2.nums).length : Int) :: ((Kp301.step st (mkCall j gs)).2.num :: (Kp301.step st (mkCall j gs)).2.nums) ++ toldFrom (Kp301.step st (mkCall j gs)).1 cs := by
  unfold toldFrom
  rw [List.map_cons]
  show PyFlat.told ((Kp301Neutral.step st (PyKp301.whole [(j : Int) :: intsN gs])).2 :: PyFlat.played Kp301Neutral.step (Kp301Neutral.step st (PyKp301.whole [(j : Int) :: intsN gs])).1 (cs.map PyKp301.whole)) = _
  rw [step_of st hj hl]
  rfl
theorem answers_told {l : List Int} {cs : List (List (List Int))} (h : PyFlat.calls PyKp301.shape l.length l = some cs) : PyKp301.answers l = toldFrom Kp301.start cs := by
  unfold PyKp301.answers PyKp301.calls
  rw [h]
  rfl
theorem asked_calls {l : List Int} (h : PyKp301.answers_asked l = true) : (∃ cs, PyFlat.calls PyKp301.shape l.length l = some cs) ∧ (PyKp301.answers l).length ≤ 10000000 := by
  unfold PyKp301.answers_asked at h
  cases e : PyFlat.calls PyKp301.shape l.length l with
  | none => rw [e] at h; cases h
  | some cs =>
    rw [e] at h
    refine ⟨⟨cs, rfl⟩, ?_⟩
    simp only [Bool.and_eq_true] at h
    exact of_decide_eq_true h.2
theorem ints_of : ∀ {l : List Int}, (∀ x ∈ l, 0 ≤ x ∧ x ≤ 4294967295) → ∃ gs : List Nat, l = intsN gs ∧ ∀ g ∈ gs, g < 4294967296
  | [], _ => ⟨[], rfl, fun g h => by cases h⟩
  | a :: l, h => by
    obtain ⟨gs, e, hg⟩ := ints_of (l := l) fun x hx => h x (List.mem_cons_of_mem _ hx)
    have ha := h a (List.mem_cons_self ..)
    refine ⟨a.toNat :: gs, ?_, fun g hm => ?_⟩
    · show a :: l = ((a.toNat : Nat) : Int) :: intsN gs
      rw [← e, Int.toNat_of_nonneg ha.1]
    · rcases List.mem_cons.mp hm with q | q
      · rw [q]; omega
      · exact hg g q
end Px
set_option Elab.async false
set_option linter.all false
set_option maxRecDepth 100000
set_option maxHeartbeats 2000000
namespace Px
open PySem PySem.Spec PyProof.Rows L2
/-- a tuple of the module's top -/
def KTup (K : PySem.W.Frag) (a : Addr) (xs : List V) : Prop := ∃ (o : Obj) (its : Array Value) (n : Nat), K.lookup a = some o ∧ o.cls = .type "tuple" ∧ o.data = .seq its n ∧ its.size ≤ sizeLine ∧ Vals xs its.toList
def counts : List Nat := [1, 1, 1, 0, 1, 1, 0, 2, 1, 2, 2, 1, 1, 0, 0, 0, 0, 2, 0]
theorem counts_at : ∀ j : Nat, j ≤ 18 → (nI counts)[j]? = some (V.int (argc j : Int)) := by
  intro j hj
  match j, hj with
  | 0, _ => rfl | 1, _ => rfl | 2, _ => rfl | 3, _ => rfl | 4, _ => rfl | 5, _ => rfl | 6, _ => rfl | 7, _ => rfl | 8, _ => rfl | 9, _ => rfl
  | 10, _ => rfl | 11, _ => rfl | 12, _ => rfl | 13, _ => rfl | 14, _ => rfl | 15, _ => rfl | 16, _ => rfl | 17, _ => rfl | 18, _ => rfl
  | j + 19, hj => omega
/-- answer_of's: one call of the specification -/
def spAnsOf (C : Addr) : Sp := fun vs H Q _ => ∃ (r d l g : Addr) (p j : Nat) (kept gs : List Nat) (st : Kp301.State), vs = [.ref r, .int (j : Int), .ref g] ∧ RingAt C H r d l p kept ∧ StOk st p kept ∧
  H g = some (.lst (nI gs)) ∧ j ≤ 18 ∧ gs.length = argc j ∧ (∀ x ∈ gs, x < 4294967296) ∧ ∀ (H' : Hp) (q : Addr), Done C H r l (Kp301.step st (mkCall j gs)) H' q → Q (.ref q) H'
/-- answers': the specification's list comes out -/
def spAns (K : PySem.W.Frag) : Sp := fun vs H Q _ => ∃ (a : Addr) (ns : List Int), vs = [.ref a] ∧ SqL K H a (iI ns) ∧ ns.length ≤ 180 ∧ (∀ x ∈ ns, 0 ≤ x ∧ x ≤ 4294967295) ∧ PyKp301.answers_asked ns = true ∧
  ∀ (H' : Hp) (p : Addr), H' p = some (.lst (iI (PyKp301.answers ns))) → Q (.ref p) H'
theorem iI_len (l : List Int) : (iI l).length = l.length := List.length_map ..
theorem iI_app (a b : List Int) : iI (a ++ b) = iI a ++ iI b := List.map_append ..
theorem iI_ints (gs : List Nat) : iI (intsN gs) = nI gs := (nI_map gs).symm
theorem iI_get {l : List Int} {i : Nat} {x : Int} (h : l[i]? = some x) : (iI l)[i]? = some (V.int x) := by
  unfold iI
  rw [List.getElem?_map, h]
  rfl
theorem cut_eq (ns : List Int) (i n : Nat) (h : i + n ≤ ns.length) : cutV (iI ns) (some (i : Int)) (some ((i + n : Nat) : Int)) = iI ((ns.drop i).take n) := by
  have e1 : HT.sIx (iI ns).length 0 (some (i : Int)) = i := by
    rw [iI_len, HT.sIx_nat, Nat.min_eq_left (by omega)]
  have e2 : HT.sIx (iI ns).length (iI ns).length (some ((i + n : Nat) : Int)) = i + n := by
    rw [iI_len, HT.sIx_nat, Nat.min_eq_left (by omega)]
  unfold cutV
  rw [e1, e2]
  have e3 : i + n - i = n := by omega
  rw [e3]
  unfold iI
  rw [List.map_take, List.map_drop]
def atOf (σ : L2.St) : Nat := match σ[3]? with
  | some (some (V.int z)) => z.toNat
  | _ => 0
section
variable {P : Program} {w : World} {K : PySem.W.Frag} {mg : Str → Option Value} {base : Heap}
theorem scAnswers : FnScope ["calls", "ring", "numbers", "at", "number", "behind", "answer"] ["calls"] (defScope sAnswers) := ⟨rfl, rfl, rfl, by decide +kernel, rfl, by decide +kernel, by decide +kernel⟩
theorem ok_answers {f C fI aA : Addr} {fd fdI : FuncData} {n : Nat} (hn : 1 ≤ n) (F : Fun K "answers" "answers" sAnswers f fd) (T : Txt K mg C) (M : Mk K C fI) (GI : FnOk P w K mg base CX0 1 fI fdI ["self"] (spInit C)) (bI : Binds K fdI ["self"] [])
    (mA : mg "ARGUMENT_COUNTS" = some (.ref aA)) (tA : KTup K aA (nI counts)) (DA : Dfn P w K mg base n "answer_of" ["ring", "number", "given"] (spAnsOf C)) : FnOk P w K mg base CX0 (n + 2) f fd ["calls"] (spAns K) := by
  refine F.ok scAnswers (fun vs H Q E h => ?_) (fun cdv A outer s H vs Q E hr h => ?_)
  · obtain ⟨a, ns, rfl, _⟩ := h
    rfl
  · obtain ⟨a, ns, rfl, hS, hlen, hb, hask, k⟩ := h
    obtain ⟨⟨cs0, hcs0⟩, hbig⟩ := asked_calls hask
    have hr2 : Room 2 _ := hr.mono (show 2 ≤ n + 1 by omega)
    have hrn : Room n _ := hr.mono (show n ≤ n + 1 by omega)
    have hsz : 10000000 < sizeLine := by decide
    refine ⟨_, pss_cons (ps_set (i := 1) scAnswers.nd rfl (Or.inl rfl) (pe_make0 M GI hr2 rfl T.mgC bI .nil pass0))
      (pss_cons (ps_set (i := 2) scAnswers.nd rfl (Or.inl rfl) (pe_lst pa_nil))
      (pss_cons (ps_set (i := 3) scAnswers.nd rfl (Or.inl rfl) pe_int)
      (pss_cons (ps_while PassesOwn.never (pt_cmpR op_lt (pv 3) (pe_callB call_len_seq (by rfl) T.len PySem.boot_len (pa_cons (pv 0) pa_nil)) (nomark _))
        (pss_cons (ps_set (i := 4) scAnswers.nd rfl (Or.inl rfl) (pe_ix ix_list (pv 0) (pv 3) (fun _ _ => rfl)))
        (pss_cons (ps_set (i := 5) scAnswers.nd rfl (Or.inl rfl) (pe_op op_add (pe_op op_add (pv 3) pe_int) (pe_ix ix_tup (pe_gr mA rfl) (pv 4) (fun _ _ => rfl))))
        (pss_cons (ps_set (i := 6) scAnswers.nd rfl (Or.inl rfl) (pe_D DA hrn rfl (pa_cons (pv 1) (pa_cons (pv 4) (pa_cons (pe_slice sl_list (pv 0) (po_some (pe_op op_add (pv 3) pe_int)) (po_some (pv 5))) pa_nil)))))
        (pss_cons (ps_expr (pe_bm PySem.F.plainAttrs_list PySem.F.slot_list_append PySem.F.type_list_append mt_append (pv 2) (pa_cons (pe_callB call_len_seq (by rfl) T.len PySem.boot_len (pa_cons (pv 6) pa_nil)) pa_nil)))
        (pss_cons (ps_expr (pe_bm PySem.F.plainAttrs_list PySem.F.slot_list_extend PySem.F.type_list_extend mt_extend (pv 2) (pa_cons (pv 6) pa_nil)))
        (pss_one (ps_set (i := 3) scAnswers.nd rfl (Or.inl rfl) (pv 5)))))))))
      (pss_one (ps_ret (pv 2)))))), ?_⟩
    intro r dx nr ndx ned
    refine ⟨r, dx, rfl, upd_same, fun H1 d0 l0 R0 hd0 hl0 kp0 => ⟨rfl, ?_⟩⟩
    have s1 : Same H H1 := Same.made nr ndx kp0
    have hr0 : H r = none := nr
    have nl0r : l0 ≠ r := fun e => by rw [e, upd_same] at hl0; cases hl0
    have nl0d : l0 ≠ dx := fun e => by rw [e, upd_ne ned, upd_same] at hl0; cases hl0
    have hl00 : H l0 = none := by rw [upd_ne nl0r, upd_ne nl0d] at hl0; exact hl0
    refine ⟨Nat.zero_le _, fun nm hnm => ?_⟩
    have hnm0 : H nm = none := s1.free hnm
    have s2 : Same H1 (upd H1 nm (.lst [])) := same_upd hnm
    refine while_by (fun σ H' => ∃ (at_ : Nat) (v4 v5 v6 : Option V) (d l : Addr) (p : Nat) (kept : List Nat) (st : Kp301.State) (out : List Int) (f : Nat) (cs : List (List (List Int))),
        σ = [some (.ref a), some (.ref r), some (.ref nm), some (.int (at_ : Int)), v4, v5, v6] ∧ Same H H' ∧ RingAt C H' r d l p kept ∧ H l = none ∧ nm ≠ l ∧ StOk st p kept ∧ H' nm = some (.lst (iI out)) ∧ at_ ≤ ns.length ∧
        PyFlat.calls PyKp301.shape f (ns.drop at_) = some cs ∧ out ++ toldFrom st cs = PyKp301.answers ns)
      (fun σ _ => ns.length - atOf σ)
      ⟨0, none, none, none, d0, l0, 0, [], none, [], ns.length, cs0, rfl, s1.trans s2, R0.same s2, hl00, fun e => ?_, .inl ⟨rfl, rfl, rfl⟩, upd_same, Nat.zero_le _, hcs0, (answers_told hcs0).symm⟩ ?_ ?_
    · have := R0.kp
      rw [← e, hnm] at this
      cases this
    · rintro σ H' ⟨at_, v4, v5, v6, d, l, p, kept, st, out, f', cs, rfl, sm, R, hl, nml, S, hnm', hat, hcs, hout⟩
      have hS' : SqL K H' a (iI ns) := sm.seq hS
      refine ⟨_, rfl, _, rfl, a, _, rfl, .inl hS', _, _, rfl, rfl, _, rfl, ite2 (fun h => ?_) (fun h => ?_)⟩
      · have hlt : at_ < ns.length := by
          have := of_decide_eq_true h
          rw [iI_len] at this
          omega
        have hd : ns.drop at_ = ns[at_] :: ns.drop (at_ + 1) := List.drop_eq_getElem_cons hlt
        rw [hd] at hcs
        obtain ⟨j, f2, cs', ej, hj, hlj, ecs, hcs'⟩ := calls_cons hcs
        have hx : ns[at_]? = some (j : Int) := by rw [List.getElem?_eq_getElem hlt, ej]
        rw [List.length_drop] at hlj
        obtain ⟨gs, egs, hgs⟩ := ints_of (l := (ns.drop (at_ + 1)).take (argc j)) fun x hx => hb x (List.mem_of_mem_drop (List.mem_of_mem_take hx))
        have hgl : gs.length = argc j := by
          have := congrArg List.length egs
          rw [List.length_take, List.length_drop] at this
          have e2 : (intsN gs).length = gs.length := List.length_map ..
          omega
        have ecut : cutV (iI ns) (some ((at_ : Int) + 1)) (some ((at_ : Int) + 1 + (argc j : Int))) = nI gs := by
          have := cut_eq ns (at_ + 1) (argc j) (by omega)
          rw [egs, iI_ints] at this
          exact this
        refine ⟨_, rfl, _, rfl, a, _, _, _, rfl, rfl, hS', at_of (j := at_) (v := V.int (j : Int)) rfl (iI_get hx), _, rfl, _, _, rfl, rfl, _, rfl, aA, _, _, _, rfl, rfl, .inr tA, at_of (j := j) (v := V.int (argc j : Int)) rfl (counts_at j hj), _, _, rfl, rfl,
          _, rfl, _, rfl, _, rfl, _, rfl, _, _, rfl, rfl, _, rfl, _, rfl, _, rfl, a, _, rfl, hS', fun g hg => ?_⟩
        have sg : Same H' (upd H' g (.lst (nI gs))) := same_upd hg
        refine ⟨r, d, l, g, p, j, kept, gs, st, rfl, ?_, S, ?_, hj, hgl, hgs, fun H3 q Dn => ?_⟩
        · rw [ecut]
          exact R.same sg
        · rw [upd_same, ecut]
        · rw [ecut] at Dn
          obtain ⟨⟨d', l', p', kept', S', R', hl'⟩, keep, hq, hans⟩ := Dn
          obtain ⟨dx', hr'⟩ := R.ob
          have nmr : nm ≠ r := ne_of hnm' hr' (by intro z; cases z)
          have hnmg : upd H' g (.lst (nI gs)) nm = some (.lst (iI out)) := sg _ _ hnm'
          have hnm3 : H3 nm = some (.lst (iI out)) := keep nm _ hnmg nmr nml
          have nq : q ≠ nm := fun e => by rw [e, hnmg] at hq; cases hq
          have nml' : nm ≠ l' := by
            rcases hl' with e | e
            · rw [e]; exact nml
            · intro z
              rw [← z, hnmg] at e
              cases e
          have e5 : out ++ (((Kp301.step st (mkCall j gs)).2.num :: (Kp301.step st (mkCall j gs)).2.nums).length : Int) :: ((Kp301.step st (mkCall j gs)).2.num :: (Kp301.step st (mkCall j gs)).2.nums) ++ toldFrom (Kp301.step st (mkCall j gs)).1 cs' = PyKp301.answers ns := by
            rw [← hout, ecs, ej, egs, told_cons st hj hgl, List.append_assoc]
          generalize hy : Kp301.step st (mkCall j gs) = y at S' hans e5
          have e6 := congrArg List.length e5
          rw [List.length_append, List.length_append] at e6
          have e7 : ((((y.2.num :: y.2.nums).length : Nat) : Int) :: (y.2.num :: y.2.nums)).length = (y.2.num :: y.2.nums).length + 1 := rfl
          refine ⟨_, rfl, .inl ⟨rfl, _, SqL.of hnm3⟩, _, rfl, q, _, rfl, .inl (SqL.of hans), nm, _, _, rfl, rfl, hnm3, (by rw [iI_len]; omega), ?_⟩
          refine ⟨_, rfl, .inl ⟨rfl, _, SqL.of upd_same⟩, _, rfl, nm, q, _, _, rfl, rfl, upd_same, (by rw [upd_ne nq]; exact hans), (by rw [List.length_append, iI_len, iI_len]; show out.length + 1 + _ ≤ _; omega), ?_⟩
          rw [upd_upd]
          refine ⟨_, rfl, ⟨at_ + 1 + argc j, _, _, _, d', l', p', kept', y.1, out ++ (((y.2.num :: y.2.nums).length : Int) :: (y.2.num :: y.2.nums)), f2, cs', rfl, ?_, ?_, ?_, nml', S', ?_, by omega, ?_, e5⟩, ?_⟩
          · intro b o eb
            have nb : b ≠ nm := ne_of_none eb hnm0
            rw [upd_ne nb]
            exact keep b o (sg _ _ (sm _ _ eb)) (ne_of_none eb hr0) (ne_of_none eb hl)
          · obtain ⟨⟨dy, r1⟩, ⟨kvs, r2, r3⟩, r4⟩ := R'
            refine ⟨⟨dy, ?_⟩, ⟨kvs, ?_, r3⟩, ?_⟩
            · rw [upd_ne (Ne.symm nmr)]; exact r1
            · rw [upd_ne (ne_of r2 hnm3 (by intro z; cases z))]; exact r2
            · rw [upd_ne (Ne.symm nml')]; exact r4
          · rcases hl' with e | e
            · rw [e]; exact hl
            · exact (sm.trans sg).free e
          · rw [upd_same, iI_app, iI_len]
            show some (HO.lst ((iI out ++ [V.int _]) ++ iI _)) = some (HO.lst (iI out ++ (V.int _ :: iI _)))
            rw [List.append_assoc]
            rfl
          · rw [List.drop_drop] at hcs'
            exact hcs'
          · show ns.length - (((at_ : Int) + 1 + (argc j : Int)).toNat) < ns.length - ((at_ : Int).toNat)
            omega
      · have hge : at_ = ns.length := by
          have h2 : ¬ (at_ : Int) < ((iI ns).length : Int) := fun z => h (decide_eq_true z)
          rw [iI_len] at h2
          omega
        rw [hge, List.drop_length] at hcs
        rw [calls_nil hcs, told_nil, List.append_nil] at hout
        refine ⟨_, rfl, k _ nm ?_⟩
        rw [hnm', hout]
    · rintro σ H' Q1 Q2 himp ⟨x1, h1, x2, h2, p1, ys, h3, h4, i1, j1, h5, h6, b1, h7, h8⟩
      exact ⟨x1, h1, x2, h2, p1, ys, h3, h4, i1, j1, h5, h6, b1, h7, himp _ _ h8⟩
end
end Px
set_option Elab.async false
set_option linter.all false
set_option maxRecDepth 100000
set_option maxHeartbeats 2000000
namespace Px
open PySem PySem.Spec PyProof.Rows L2
/-- the calls that are handed points -/
def ptCalls : List Nat := [1, 2, 7, 8, 9, 10, 11, 17]
/-- what a call's def is handed -/
def Pre (pts : List Nat) (j : Nat) (p : Nat) (_ gs : List Nat) : Prop := (j ≠ 0 → p ≠ 0) ∧ gs.length = argc j ∧ (j ∈ pts → ∀ x ∈ gs, x < p) ∧ ∀ x ∈ gs, x < 4294967296
theorem step_none {j : Nat} {gs : List Nat} (hj : j ≠ 0) : Kp301.step none (mkCall j gs) = (none, Kp301.say (-11)) := by
  unfold mkCall
  split <;> first | exact absurd rfl hj | rfl
theorem refused {j p : Nat} {kept gs : List Nat} (G : Good p kept) (hj : j ∈ ptCalls) (hl : gs.length = argc j) {x : Nat} (hx : x ∈ gs) (hp : p ≤ x) : Kp301.step (some ⟨p, kept⟩) (mkCall j gs) = (some ⟨p, kept⟩, Kp301.say (-2)) := by
  unfold ptCalls at hj
  simp only [List.mem_cons, List.not_mem_nil, or_false] at hj
  rcases hj with rfl | rfl | rfl | rfl | rfl | rfl | rfl | rfl
  · obtain ⟨a, rfl⟩ := len1 hl
    have e := List.mem_singleton.mp hx
    subst e
    show (if p ≤ x then _ else _) = _
    rw [if_pos hp]
  · obtain ⟨a, rfl⟩ := len1 hl
    have e := List.mem_singleton.mp hx
    subst e
    have hc : kept.contains x = false := by
      cases q : kept.contains x with
      | false => rfl
      | true =>
        have := G.lt x (by simpa using q)
        omega
    show (if kept.contains x = false then _ else _) = _
    rw [if_pos hc]
  · obtain ⟨a, b, rfl⟩ := len2 hl
    have h2 : p ≤ a ∨ p ≤ b := by
      rcases List.mem_cons.mp hx with e | e
      · rw [← e]; exact .inl hp
      · rw [← List.mem_singleton.mp e]; exact .inr hp
    show (some _, if p ≤ a ∨ p ≤ b then _ else _) = _
    rw [if_pos h2]
  · obtain ⟨a, rfl⟩ := len1 hl
    have e := List.mem_singleton.mp hx
    subst e
    show (some _, if p ≤ x then _ else _) = _
    rw [if_pos hp]
  · obtain ⟨a, b, rfl⟩ := len2 hl
    have h2 : p ≤ a ∨ p ≤ b := by
      rcases List.mem_cons.mp hx with e | e
      · rw [← e]; exact .inl hp
      · rw [← List.mem_singleton.mp e]; exact .inr hp
    show (some _, if p ≤ a ∨ p ≤ b then _ else _) = _
    rw [if_pos h2]
  · obtain ⟨a, b, rfl⟩ := len2 hl
    have h2 : p ≤ a ∨ p ≤ b := by
      rcases List.mem_cons.mp hx with e | e
      · rw [← e]; exact .inl hp
      · rw [← List.mem_singleton.mp e]; exact .inr hp
    show (some _, if p ≤ a ∨ p ≤ b then _ else _) = _
    rw [if_pos h2]
  · obtain ⟨a, rfl⟩ := len1 hl
    have e := List.mem_singleton.mp hx
    subst e
    show (some _, if p ≤ x then _ else _) = _
    rw [if_pos hp]
  · obtain ⟨a, b, rfl⟩ := len2 hl
    have h2 : p ≤ a ∨ p ≤ b := by
      rcases List.mem_cons.mp hx with e | e
      · rw [← e]; exact .inl hp
      · rw [← List.mem_singleton.mp e]; exact .inr hp
    show (some _, if p ≤ a ∨ p ≤ b then _ else _) = _
    rw [if_pos h2]
theorem pt_argc {j : Nat} (h : j ∈ ptCalls) : 0 < argc j := by
  unfold ptCalls at h
  simp only [List.mem_cons, List.not_mem_nil, or_false] at h
  rcases h with rfl | rfl | rfl | rfl | rfl | rfl | rfl | rfl <;> decide
theorem StOk.zero {st : Kp301.State} {kept : List Nat} (S : StOk st 0 kept) : st = none := by
  rcases S with ⟨h, _⟩ | ⟨_, G⟩
  · exact h
  · have := (okP_lt G.ok).1
    omega
/-- the greatest of some numbers -/
theorem max_of : ∀ {gs : List Nat}, 0 < gs.length → ∃ m, m ∈ gs ∧ ∀ y ∈ gs, y ≤ m
  | [a], _ => ⟨a, List.mem_singleton.mpr rfl, fun y h => by rw [List.mem_singleton.mp h]; exact Nat.le_refl _⟩
  | a :: b :: l, _ => by
    obtain ⟨m, hm, hy⟩ := max_of (gs := b :: l) (Nat.succ_pos _)
    by_cases h : m ≤ a
    · exact ⟨a, List.mem_cons_self .., fun y h2 => by
        rcases List.mem_cons.mp h2 with e | e
        · rw [e]; exact Nat.le_refl _
        · exact Nat.le_trans (hy y e) h⟩
    · exact ⟨m, List.mem_cons_of_mem _ hm, fun y h2 => by
        rcases List.mem_cons.mp h2 with e | e
        · rw [e]; omega
        · exact hy y e⟩
section
variable {P : Program} {w : World} {K : PySem.W.Frag} {mg : Str → Option Value} {base : Heap}
theorem scAnswerOf : FnScope ["ring", "number", "given"] ["ring", "number", "given"] (defScope sAnswerOf) := ⟨rfl, rfl, rfl, by decide +kernel, rfl, by decide +kernel, by decide +kernel⟩
/-- the def that stands in CALLS at j, with its promise -/
def Entry (P : Program) (w : World) (K : PySem.W.Frag) (mg : Str → Option Value) (base : Heap) (C aC : Addr) (pts : List Nat) (n j : Nat) : Prop :=
  ∃ (f : Addr) (fd : FuncData), KAt K aC (j : Int) (.ref f) ∧ PySem.W.keepIn K (.ref f) = true ∧ FnOk P w K mg base CX0 n f fd ["ring", "given"] (spH C (Pre pts j) (mkCall j)) ∧ Binds K fd ["ring", "given"] []
theorem ok_answerOf {f C aC aP : Addr} {fd : FuncData} {pts : List Nat} {n : Nat} (F : Fun K "answer_of" "answer_of" sAnswerOf f fd) (T : Txt K mg C) (hpts : ∀ j ∈ pts, j ∈ ptCalls) (mC : mg "CALLS" = some (.ref aC)) (mP : mg "CALLS_OF_POINTS" = some (.ref aP)) (tP : KTup K aP (nI pts))
    (hTab : ∀ j : Nat, j ≤ 18 → Entry P w K mg base C aC pts n j) : FnOk P w K mg base CX0 (n + 1) f fd ["ring", "number", "given"] (spAnsOf C) := by
  refine F.ok scAnswerOf (fun vs H Q E h => ?_) (fun cdv A outer s H vs Q E hr h => ?_)
  · obtain ⟨r, d, l, g, p, j, kept, gs, st, rfl, _⟩ := h
    rfl
  · obtain ⟨r, d, l, g, p, j, kept, gs, st, rfl, R, S, hg, hj, hl, hb, k⟩ := h
    obtain ⟨dx, h1⟩ := R.ob
    refine ⟨_, pss_cons (ps_if (PW.pt (pw_and (pt_cmpR op_ne (pv 1) (pe_gi T.cBegin rfl) (nomark _)) (pw_and1 (pt_cmpR op_eq (pe_fld (pv 0) rfl) pe_int (nomark _))))) (pss_one (ps_ret (pe_lst (pa_cons (pe_gi T.cNotBegun rfl) pa_nil)))) pss_nil)
      (pss_cons (ps_if (PW.pt (pw_and (pt_cmpR op_in_seq (pv 1) (pe_gr mP rfl) rfl) (pw_and1 (pt_cmpR op_ge (pe_callB (cr_max rfl) (by rfl) T.max PyProof.Rows.boot_max (pa_cons (pv 2) pa_nil)) (pe_fld (pv 0) rfl) (nomark _))))) (pss_one (ps_ret (pe_lst (pa_cons (pe_gi T.cNoPoint rfl) pa_nil)))) pss_nil)
      (pss_one (ps_ret (pe_callV (pe_kget (pe_gr mC rfl) (pv 1) (fun _ _ => rfl)) (pa_cons (pv 0) (pa_cons (pv 2) pa_nil)))))), ?_⟩
    -- what stands behind both tests
    have fin : Pre pts j p kept gs → tRet (tCallV (cxOf CX0 P w K mg base ["ring", "number", "given"] "answer_of" (defScope sAnswerOf) f cdv A outer s H E).nox (tKGet K (tC (.ref aC)) (tVar 1)) (tCons (tVar 0) (tCons (tVar 2) tNil)))
        { nx := fun _ H' => Q .non H', rt := Q } (L2.start ["ring", "number", "given"] [.ref r, .int (j : Int), .ref g]) H := by
      intro pre
      obtain ⟨fj, fdj, ka, kk, Fj, bj⟩ := hTab j hj
      exact ⟨_, rfl, aC, (j : Int), _, .ref fj, rfl, rfl, ka, rfl, fj, fdj, _, n, _, rfl, kk, hr, Fj, bj, _, rfl, _, rfl, r, d, l, g, p, kept, gs, st, rfl, R, S, hg, pre, k⟩
    have second : (j ≠ 0 → p ≠ 0) → tSeq (tIfS (tAnd (tTest (tOp (rIn K false) (tVar 1) (tC (.ref aP)))) (tTest (tOp (rI0 fun i j => .bl (decide (j ≤ i))) (tCB (rMax K) (tCons (tVar 2) tNil)) (tFld K (tVar 0) "prime")))) (tRet (tLst (tCons (tC (.int (-2))) tNil))) tNext)
        (tRet (tCallV (cxOf CX0 P w K mg base ["ring", "number", "given"] "answer_of" (defScope sAnswerOf) f cdv A outer s H E).nox (tKGet K (tC (.ref aC)) (tVar 1)) (tCons (tVar 0) (tCons (tVar 2) tNil))))
        { nx := fun _ H' => Q .non H', rt := Q } (L2.start ["ring", "number", "given"] [.ref r, .int (j : Int), .ref g]) H := by
      intro hp
      refine ⟨_, rfl, aP, _, rfl, .inr (.inr tP), rfl, flat_nI _, _, rfl, ?_⟩
      have e0 : (if false = true then !inV (V.int (j : Int)) (nI pts) else inV (V.int (j : Int)) (nI pts)) = pts.contains j := inV_nat j pts
      rw [e0]
      cases hc : pts.contains j with
      | false => exact iteF (iteF (fin ⟨hp, hl, fun m => (by have : pts.contains j = true := (by simpa using m); rw [hc] at this; cases this), hb⟩))
      | true =>
        have hm : j ∈ pts := by simpa using hc
        have hpc := hpts j hm
        have hl0 : 0 < gs.length := by rw [hl]; exact pt_argc hpc
        refine iteT ⟨_, rfl, g, intsN gs, rfl, SqL.of (by rw [hg]; exact congrArg (fun z => some (HO.lst z)) (nI_map gs)), (by show 0 < (List.map _ gs).length; rw [List.length_map]; exact hl0), fun m hm2 hmx => ?_⟩
        obtain ⟨m', hm', rfl⟩ := List.mem_map.mp hm2
        have hmx' : ∀ y ∈ gs, y ≤ m' := fun y hy => by
          have := hmx (y : Int) (List.mem_map.mpr ⟨y, hy, rfl⟩)
          omega
        refine ⟨_, rfl, r, C, dx, _, _, rfl, h1, T.cl, T.nP, rf_p _ _ _, _, _, rfl, rfl, _, rfl, ite2 (fun h => ?_) (fun h => ?_)⟩
        · have hpm : (p : Int) ≤ (m' : Int) := of_decide_eq_true h
          have hj0 : j ≠ 0 := fun e => by rw [e] at hpc; exact absurd hpc (by decide)
          obtain ⟨hst, G⟩ := S.some_of (hp hj0)
          refine ⟨(by show 1 ≤ sizeLine; decide), fun q hq => k _ q (finish S R (v := -2) (m := []) ?_ (same_upd hq) hq upd_same)⟩
          rw [hst, refused G hpc hl hm' (by omega)]
          rfl
        · have hpm : ¬ (p : Int) ≤ (m' : Int) := fun z => h (decide_eq_true z)
          exact fin ⟨hp, hl, fun _ x hx => by have := hmx' x hx; omega, hb⟩
    refine ⟨_, rfl, rfl, _, rfl, ite2 (fun h => ?_) (fun h => ?_)⟩
    · refine ⟨_, rfl, r, C, dx, _, _, rfl, h1, T.cl, T.nP, rf_p _ _ _, rfl, _, rfl, ite2 (fun h2 => ?_) (fun h2 => ?_)⟩
      · have hp0 : (p : Int) = 0 := V.int.inj (of_decide_eq_true h2)
        have hp0' : p = 0 := by omega
        have hj0 : j ≠ 0 := fun e => by
          rw [e] at h
          exact absurd h (by decide)
        subst hp0'
        have hst := S.zero
        refine ⟨(by show 1 ≤ sizeLine; decide), fun q hq => k _ q (finish S R (v := -11) (m := []) ?_ (same_upd hq) hq upd_same)⟩
        rw [hst, step_none hj0]
        rfl
      · exact second fun _ e => h2 (decide_eq_true (by rw [e]; rfl))
    · exact iteF (second fun hj0 => absurd (by
        show (!decide (V.int (j : Int) = V.int 0)) = true
        rw [decide_eq_false fun e => hj0 (by have := V.int.inj e; omega)]
        rfl) h)
end
end Px
set_option Elab.async false
set_option linter.all false
set_option maxRecDepth 100000
set_option maxHeartbeats 2000000
namespace Px
open PySem PySem.Spec PyProof.Rows L2
/-- a def of the text as it stands behind the top -/
def DefIn (K : PySem.W.Frag) (x : Str) (st : Stmt) (f : Addr) : Prop := ∃ fd : FuncData, PySem.W.nsIn K mainGlobals x = some (some (.ref f)) ∧ Fun K x x st f fd
theorem defIn_mk {K : PySem.W.Frag} {x : Str} {st : Stmt} {f : Addr} {oc : Value} {od an : Option Addr} {osl : Array (Option Value)} {kV doc pm cdv ct : Value} (a : PySem.W.nsIn K mainGlobals x = some (some (.ref f)))
    (l : K.lookup f = some ⟨oc, od, .func (PySem.W.fnOf x x (defArgs st) (defBody st) (defScope st) .none kV doc pm an cdv ct), osl⟩) (c : PySem.W.codeIn K cdv x = true) (k : PySem.W.keepIn K (.ref f) = true) : ∃ f, DefIn K x st f := ⟨f, _, a, fun_mk l c k⟩
/-- the rows of a dict of defs: the keys 0, 1, .. -/
def KRows : Nat → List DictEntry → List Addr → Prop
  | _, [], [] => True
  | i, e :: es, f :: fs => (∃ t, e.key = .int (i : Int) t ∧ e.hash = hashInt (i : Int) ∧ e.val = .ref f) ∧ KRows (i + 1) es fs
  | _, _, _ => False
theorem krows_keys : ∀ {i : Nat} {es : List DictEntry} {fs : List Addr}, KRows i es fs → ∀ e ∈ es, ∃ (k : Int) (t : Tok), e.key = .int k t ∧ e.hash = hashInt k
  | _, [], [], _ => fun e h => by cases h
  | i, a :: es, f :: fs, ⟨⟨t, h1, h2, _⟩, hr⟩ => fun e h => by
    rcases List.mem_cons.mp h with q | q
    · exact ⟨i, t, by rw [q]; exact h1, by rw [q]; exact h2⟩
    · exact krows_keys hr e q
theorem krows_find : ∀ {i : Nat} {es : List DictEntry} {fs : List Addr} {j : Nat} {f : Addr}, KRows i es fs → fs[j]? = some f → (es.find? fun e => Value.isInt ((i + j : Nat) : Int) e.key).map (·.val) = some (.ref f)
  | _, [], [], _, _, _, h => by simp at h
  | i, a :: es, b :: fs, 0, f, ⟨⟨t, h1, _, h3⟩, _⟩, h => by
    have e : b = f := Option.some.inj h
    subst e
    rw [List.find?_cons, h1]
    have : Value.isInt ((i + 0 : Nat) : Int) (.int (i : Int) t) = true := by simp [Value.isInt]
    rw [this]
    simp [h3]
  | i, a :: es, b :: fs, j + 1, f, ⟨⟨t, h1, _, _⟩, hr⟩, h => by
    rw [List.find?_cons, h1]
    have : Value.isInt ((i + (j + 1) : Nat) : Int) (.int (i : Int) t) = false := by
      simp [Value.isInt]
      omega
    rw [this]
    have ih := krows_find (i := i + 1) (j := j) hr (show fs[j]? = some f from h)
    have e : i + 1 + j = i + (j + 1) := by omega
    rw [e] at ih
    exact ih
theorem kat_rows {K : PySem.W.Frag} {d : Addr} {es : List DictEntry} {n : Nat} {fs : List Addr} (lk : K.lookup d = some ⟨.type "dict", none, .dict es.toArray n, #[]⟩) (h : KRows 0 es fs) {j : Nat} {f : Addr} (hj : fs[j]? = some f) : KAt K d (j : Int) (.ref f) := by
  refine ⟨es.toArray, n, lk, fun e he => krows_keys h e (by simpa using he), ?_⟩
  have := krows_find h hj
  rw [Nat.zero_add] at this
  unfold findBy
  rw [List.find?_toArray]
  exact this
end Px
namespace Px
open PySem PySem.Spec PyProof.Rows L2
/-- CALLS, as it stands behind the top -/
def TabIn (K : PySem.W.Frag) (x : Str) (fs : List Addr) (d : Addr) : Prop := PySem.W.nsIn K mainGlobals x = some (some (.ref d)) ∧ ∃ es n, K.lookup d = some ⟨.type "dict", none, .dict (List.toArray es) n, #[]⟩ ∧ KRows 0 es fs
theorem tabIn_mk {K : PySem.W.Frag} {x : Str} {fs : List Addr} {d : Addr} {es : List DictEntry} {n : Nat} (a : PySem.W.nsIn K mainGlobals x = some (some (.ref d))) (l : K.lookup d = some ⟨.type "dict", none, .dict (List.toArray es) n, #[]⟩) (r : KRows 0 es fs) : ∃ d, TabIn K x fs d := ⟨d, a, es, n, l, r⟩
/-- a tuple of whole numbers of the top -/
def TupIn (K : PySem.W.Frag) (x : Str) (ns : List Nat) (d : Addr) : Prop := PySem.W.nsIn K mainGlobals x = some (some (.ref d)) ∧ KTup K d (nI ns)
theorem tupIn_mk {K : PySem.W.Frag} {x : Str} {ns : List Nat} {d : Addr} {its : List Value} {n : Nat} {dd : Option Addr} {sl : Array (Option Value)} (a : PySem.W.nsIn K mainGlobals x = some (some (.ref d))) (l : K.lookup d = some ⟨.type "tuple", dd, .seq (List.toArray its) n, sl⟩)
    (hz : its.length ≤ sizeLine) (r : Vals (nI ns) its) : ∃ d, TupIn K x ns d := ⟨d, a, _, List.toArray its, n, l, rfl, rfl, by simpa using hz, r⟩
end Px
set_option Elab.async false
set_option linter.all false
set_option maxRecDepth 100000
set_option maxHeartbeats 4000000
namespace Px
open PySem PySem.Spec PyProof.Rows L2
/-! ### what a call's def is handed, from what answer_of hands it -/
theorem spH_imp {C : Addr} {A A' : Nat → List Nat → List Nat → Prop} {c : List Nat → Kp301.Call} (h : ∀ p kept gs, A' p kept gs → A p kept gs) : ∀ vs H Q E, spH C A' c vs H Q E → spH C A c vs H Q E := fun vs H Q E q => by
  obtain ⟨r, d, l, g, p, kept, gs, st, h1, h2, h3, h4, h5, h6⟩ := q
  exact ⟨r, d, l, g, p, kept, gs, st, h1, h2, h3, h4, h p kept gs h5, h6⟩
theorem pre_0 {j : Nat} (hj : j ≠ 0) (ha : argc j = 0) : ∀ p kept gs, Pre ptCalls j p kept gs → A0 p kept gs := fun p kept gs h => ⟨h.1 hj, len0 (h.2.1.trans ha)⟩
theorem pre_1' {j : Nat} (hj : j ≠ 0) (ha : argc j = 1) : ∀ p kept gs, Pre ptCalls j p kept gs → A1' p kept gs := fun p kept gs h => ⟨h.1 hj, len1 (h.2.1.trans ha)⟩
theorem pre_T {j : Nat} (hj : j ≠ 0) (ha : argc j = 1) : ∀ p kept gs, Pre ptCalls j p kept gs → A1' p kept gs ∧ ∀ x ∈ gs, x < 4294967296 := fun p kept gs h => ⟨pre_1' hj ha p kept gs h, h.2.2.2⟩
theorem pre_1 {j : Nat} (hj : j ≠ 0) (ha : argc j = 1) (hm : j ∈ ptCalls) : ∀ p kept gs, Pre ptCalls j p kept gs → A1 p kept gs := fun p kept gs h => by
  obtain ⟨x, rfl⟩ := len1 (h.2.1.trans ha)
  exact ⟨h.1 hj, x, rfl, h.2.2.1 hm x (List.mem_singleton.mpr rfl)⟩
theorem pre_2 {j : Nat} (hj : j ≠ 0) (ha : argc j = 2) (hm : j ∈ ptCalls) : ∀ p kept gs, Pre ptCalls j p kept gs → A2 p kept gs := fun p kept gs h => by
  obtain ⟨x, y, rfl⟩ := len2 (h.2.1.trans ha)
  exact ⟨h.1 hj, x, y, rfl, h.2.2.1 hm x (List.mem_cons_self ..), h.2.2.1 hm y (List.mem_cons_of_mem _ (List.mem_singleton.mpr rfl))⟩
theorem pre_B : ∀ p kept gs, Pre ptCalls 0 p kept gs → ∃ x, gs = [x] := fun p kept gs h => len1 h.2.1
theorem dfn_of {P : Program} {w : World} {K : PySem.W.Frag} {h : Heap} {mg : Str → Option Value} {base : Heap} {k : Nat} {x : Str} {st : Stmt} {f : Addr} {fd : FuncData} {ps : List Str} {sp : Sp} (X : K.In h) (G : h.Ns mainGlobals mg) (a : PySem.W.nsIn K mainGlobals x = some (some (.ref f)))
    (F : Fun K x x st f fd) (b : Binds K fd ps []) (ok : FnOk P w K mg base CX0 k f fd ps sp) : Dfn P w K mg base k x ps sp := ⟨⟨f, fd, PySem.W.mg_of X G a, F.kp, b, ok⟩⟩
/-! ### the class, CALLS with the names of its defs -/
structure ClsIn (K : PySem.W.Frag) (C fI : Addr) : Prop where
  aC : PySem.W.nsIn K mainGlobals "Ring" = some (some (.ref C))
  cl : Cls K C
  made : Mk K C fI
  fI : ∃ fd, Fun K "__init__" "Ring.__init__" sInit fI fd
  nP : NoAttr K C "prime"
  nS : NoAttr K C "squares"
  nK : NoAttr K C "kept_points"
theorem clsIn_mk {K : PySem.W.Frag} {C f1 : Addr} {od1 an1 : Option Addr} {sl1 : Array (Option Value)} {oc1 kV1 dc1 pm1 cd1 ct1 : Value} (aC : PySem.W.nsIn K mainGlobals "Ring" = some (some (.ref C)))
    (a1 : PySem.W.findIn K (.ref C) "__init__" = some (some (.ref f1))) (i1 : PySem.W.isFn K (.ref f1) = true) (l1 : K.lookup f1 = some ⟨oc1, od1, .func (PySem.W.fnOf "__init__" "Ring.__init__" (defArgs sInit) (defBody sInit) (defScope sInit) .none kV1 dc1 pm1 an1 cd1 ct1), sl1⟩) (c1 : PySem.W.codeIn K cd1 "Ring.__init__" = true) (k1 : PySem.W.keepIn K (.ref f1) = true)
    (pg : PySem.W.plainGet K C Str.empty = true) (hd : PySem.W.hasDictIn K C = true) (po : PySem.W.plainOver K C = true) (sa : PySem.W.findIn K (.ref C) "__setattr__" = some (some (.builtin "object.__setattr__"))) (mk : PySem.W.makesIn K C = true) (kc : PySem.W.keepIn K (.ref C) = true)
    (nP : PySem.W.findIn K (.ref C) "prime" = some none) (nS : PySem.W.findIn K (.ref C) "squares" = some none) (nK : PySem.W.findIn K (.ref C) "kept_points" = some none) : ∃ C fI, ClsIn K C fI :=
  ⟨C, f1, aC, ⟨pg, hd, po, sa⟩, ⟨mk, a1, i1, kc⟩, ⟨_, fun_mk (st := sInit) l1 c1 k1⟩, nP, nS, nK⟩
/-- the defs of those names, in order -/
def NsAll (K : PySem.W.Frag) : List Str → List Addr → Prop
  | [], [] => True
  | x :: xs, f :: fs => PySem.W.nsIn K mainGlobals x = some (some (.ref f)) ∧ NsAll K xs fs
  | _, _ => False
theorem nsAll_at {K : PySem.W.Frag} : ∀ {xs : List Str} {fs : List Addr} {j : Nat} {x : Str} {f : Addr}, NsAll K xs fs → xs[j]? = some x → PySem.W.nsIn K mainGlobals x = some (some (.ref f)) → fs[j]? = some f
  | [], [], j, x, f, _, h, _ => by simp at h
  | a :: xs, g :: fs, 0, x, f, ⟨h1, _⟩, h, e => by
    have q : a = x := Option.some.inj h
    subst q
    rw [h1] at e
    have e2 : Value.ref g = Value.ref f := Option.some.inj (Option.some.inj e)
    cases e2
    rfl
  | a :: xs, g :: fs, j + 1, x, f, ⟨_, h2⟩, h, e => nsAll_at (j := j) h2 h e
def TabNs (K : PySem.W.Frag) (x : Str) (names : List Str) (d : Addr) : Prop := PySem.W.nsIn K mainGlobals x = some (some (.ref d)) ∧ ∃ es n fs, K.lookup d = some ⟨.type "dict", none, .dict (List.toArray es) n, #[]⟩ ∧ KRows 0 es fs ∧ NsAll K names fs
theorem tabNs_mk {K : PySem.W.Frag} {x : Str} {names : List Str} {fs : List Addr} {d : Addr} {es : List DictEntry} {n : Nat} (a : PySem.W.nsIn K mainGlobals x = some (some (.ref d))) (l : K.lookup d = some ⟨.type "dict", none, .dict (List.toArray es) n, #[]⟩) (r : KRows 0 es fs) (s : NsAll K names fs) : ∃ d, TabNs K x names d := ⟨d, a, es, n, fs, l, r, s⟩
theorem intIn_mk {K : PySem.W.Frag} {x : Str} {v : Int} {t : Tok} (e : PySem.W.nsIn K mainGlobals x = some (some (.int v t))) : ∃ t, PySem.W.nsIn K mainGlobals x = some (some (.int v t)) := ⟨t, e⟩
def callNames : List Str := ["begin", "put", "take", "tell_kept", "move", "times", "grow", "leads", "of", "common", "into", "rounds", "differ", "who", "inner", "group", "greatest", "steps", "told"]
theorem tabNs_mk19 {K : PySem.W.Frag} {x : Str} {f0 f1 f2 f3 f4 f5 f6 f7 f8 f9 f10 f11 f12 f13 f14 f15 f16 f17 f18 d : Addr} {es : List DictEntry} {n : Nat} (a : PySem.W.nsIn K mainGlobals x = some (some (.ref d))) (l : K.lookup d = some ⟨.type "dict", none, .dict (List.toArray es) n, #[]⟩)
    (s0 : PySem.W.nsIn K mainGlobals "begin" = some (some (.ref f0))) (s1 : PySem.W.nsIn K mainGlobals "put" = some (some (.ref f1))) (s2 : PySem.W.nsIn K mainGlobals "take" = some (some (.ref f2))) (s3 : PySem.W.nsIn K mainGlobals "tell_kept" = some (some (.ref f3))) (s4 : PySem.W.nsIn K mainGlobals "move" = some (some (.ref f4))) (s5 : PySem.W.nsIn K mainGlobals "times" = some (some (.ref f5))) (s6 : PySem.W.nsIn K mainGlobals "grow" = some (some (.ref f6))) (s7 : PySem.W.nsIn K mainGlobals "leads" = some (some (.ref f7))) (s8 : PySem.W.nsIn K mainGlobals "of" = some (some (.ref f8))) (s9 : PySem.W.nsIn K mainGlobals "common" = some (some (.ref f9))) (s10 : PySem.W.nsIn K mainGlobals "into" = some (some (.ref f10))) (s11 : PySem.W.nsIn K mainGlobals "rounds" = some (some (.ref f11))) (s12 : PySem.W.nsIn K mainGlobals "differ" = some (some (.ref f12))) (s13 : PySem.W.nsIn K mainGlobals "who" = some (some (.ref f13))) (s14 : PySem.W.nsIn K mainGlobals "inner" = some (some (.ref f14))) (s15 : PySem.W.nsIn K mainGlobals "group" = some (some (.ref f15))) (s16 : PySem.W.nsIn K mainGlobals "greatest" = some (some (.ref f16))) (s17 : PySem.W.nsIn K mainGlobals "steps" = some (some (.ref f17))) (s18 : PySem.W.nsIn K mainGlobals "told" = some (some (.ref f18)))
    (r : KRows 0 es [f0, f1, f2, f3, f4, f5, f6, f7, f8, f9, f10, f11, f12, f13, f14, f15, f16, f17, f18]) : ∃ d, TabNs K x callNames d := ⟨d, a, es, n, _, l, r, s0, s1, s2, s3, s4, s5, s6, s7, s8, s9, s10, s11, s12, s13, s14, s15, s16, s17, s18, trivial⟩
/-! ### all together -/
theorem all_mk {P : Program} {w : World} {K : PySem.W.Frag} {h : Heap} {mg : Str → Option Value} {fa : Addr} (X : K.In h) (G : h.Ns mainGlobals mg) (hfa : mg "answers" = some (.ref fa))
    (hC : ∃ C fI, ClsIn K C fI) (hTab : ∃ d, TabNs K "CALLS" callNames d) (hP : ∃ d, TupIn K "CALLS_OF_POINTS" ptCalls d) (hA : ∃ d, TupIn K "ARGUMENT_COUNTS" counts d)
    (E_is_odd_prime_in_bounds : ∃ f, DefIn K "is_odd_prime_in_bounds" sPrime f)
    (E_squares_left_by : ∃ f, DefIn K "squares_left_by" sSquares f)
    (E_leads_to : ∃ f, DefIn K "leads_to" sLeadsTo f)
    (E_each_leads_to : ∃ f, DefIn K "each_leads_to" sEachLeads f)
    (E_leads_to_each : ∃ f, DefIn K "leads_to_each" sLeadsEach f)
    (E_led_to_by_each : ∃ f, DefIn K "led_to_by_each" sLedBy f)
    (E_leading_to_each : ∃ f, DefIn K "leading_to_each" sLeadingEach f)
    (E_led_to_by_any : ∃ f, DefIn K "led_to_by_any" sLedByAny f)
    (E_how_often_led : ∃ f, DefIn K "how_often_led" sOften f)
    (E_leads_both_ways : ∃ f, DefIn K "leads_both_ways" sBothWays f)
    (E_how_many_pairs : ∃ f, DefIn K "how_many_pairs" sPairs f)
    (E_greatest_group_upon : ∃ f, DefIn K "greatest_group_upon" sGroupUpon f)
    (E_counted : ∃ f, DefIn K "counted" sCounted f)
    (E_begin : ∃ f, DefIn K "begin" sBegin f)
    (E_put : ∃ f, DefIn K "put" sPut f)
    (E_take : ∃ f, DefIn K "take" sTake f)
    (E_tell_kept : ∃ f, DefIn K "tell_kept" sTellKept f)
    (E_move : ∃ f, DefIn K "move" sMove f)
    (E_times : ∃ f, DefIn K "times" sTimes f)
    (E_grow : ∃ f, DefIn K "grow" sGrow f)
    (E_leads : ∃ f, DefIn K "leads" sLeads f)
    (E_of : ∃ f, DefIn K "of" sOf f)
    (E_common : ∃ f, DefIn K "common" sCommon f)
    (E_into : ∃ f, DefIn K "into" sInto f)
    (E_rounds : ∃ f, DefIn K "rounds" sRounds f)
    (E_differ : ∃ f, DefIn K "differ" sDiffer f)
    (E_who : ∃ f, DefIn K "who" sWho f)
    (E_inner : ∃ f, DefIn K "inner" sInner f)
    (E_group : ∃ f, DefIn K "group" sGroup f)
    (E_greatest : ∃ f, DefIn K "greatest" sGreatest f)
    (E_steps : ∃ f, DefIn K "steps" sSteps f)
    (E_told : ∃ f, DefIn K "told" sTold f)
    (E_answer_of : ∃ f, DefIn K "answer_of" sAnswerOf f)
    (E_answers : ∃ f, DefIn K "answers" sAnswers f)
    (c_NO_SUCH_POINT : ∃ t, PySem.W.nsIn K mainGlobals "NO_SUCH_POINT" = some (some (.int (-2) t)))
    (c_NOT_BEGUN : ∃ t, PySem.W.nsIn K mainGlobals "NOT_BEGUN" = some (some (.int (-11) t)))
    (c_ALREADY_KEPT : ∃ t, PySem.W.nsIn K mainGlobals "ALREADY_KEPT" = some (some (.int (-17) t)))
    (c_NOT_FIT : ∃ t, PySem.W.nsIn K mainGlobals "NOT_FIT" = some (some (.int (-22) t)))
    (c_FULL : ∃ t, PySem.W.nsIn K mainGlobals "FULL" = some (some (.int (-28) t)))
    (c_NONE_THERE : ∃ t, PySem.W.nsIn K mainGlobals "NONE_THERE" = some (some (.int (-33) t)))
    (c_PRIMES_END : ∃ t, PySem.W.nsIn K mainGlobals "PRIMES_END" = some (some (.int (200) t)))
    (c_MOST_KEPT : ∃ t, PySem.W.nsIn K mainGlobals "MOST_KEPT" = some (some (.int (12) t)))
    (c_BEGIN : ∃ t, PySem.W.nsIn K mainGlobals "BEGIN" = some (some (.int (0) t)))
    (n_len : PySem.W.nsIn K mainGlobals "len" = some none)
    (n_range : PySem.W.nsIn K mainGlobals "range" = some none)
    (n_max : PySem.W.nsIn K mainGlobals "max" = some none)
    (n_enumerate : PySem.W.nsIn K mainGlobals "enumerate" = some none)
    : ∃ fd : FuncData, (∀ (s : Shared) (us : List Value), us.length = (["calls"] : List Str).length → BindsTo s fd ⟨us, []⟩ ((["calls"] : List Str).zip us)) ∧ ∀ base : Heap, K.In base → base.Ns mainGlobals mg → FnOk P w K mg base CX0 206 fa fd ["calls"] (spAns K) := by
  obtain ⟨C, fI, hC⟩ := hC
  obtain ⟨fdI, F_I⟩ := hC.fI
  have b_I := F_I.binds (ps := ["self"]) fun _ _ _ _ _ _ us hl => match us, hl with | [_], _ => rfl
  obtain ⟨aT, a_T, es, nT, fs, lT, rT, sT⟩ := hTab
  obtain ⟨aP, a_P, tP⟩ := hP
  obtain ⟨aA, a_A, tA⟩ := hA
  have k_NO_SUCH_POINT : ∃ t, mg "NO_SUCH_POINT" = some (.int (-2) t) := let ⟨t, e⟩ := c_NO_SUCH_POINT; ⟨t, PySem.W.mg_of X G e⟩
  have k_NOT_BEGUN : ∃ t, mg "NOT_BEGUN" = some (.int (-11) t) := let ⟨t, e⟩ := c_NOT_BEGUN; ⟨t, PySem.W.mg_of X G e⟩
  have k_ALREADY_KEPT : ∃ t, mg "ALREADY_KEPT" = some (.int (-17) t) := let ⟨t, e⟩ := c_ALREADY_KEPT; ⟨t, PySem.W.mg_of X G e⟩
  have k_NOT_FIT : ∃ t, mg "NOT_FIT" = some (.int (-22) t) := let ⟨t, e⟩ := c_NOT_FIT; ⟨t, PySem.W.mg_of X G e⟩
  have k_FULL : ∃ t, mg "FULL" = some (.int (-28) t) := let ⟨t, e⟩ := c_FULL; ⟨t, PySem.W.mg_of X G e⟩
  have k_NONE_THERE : ∃ t, mg "NONE_THERE" = some (.int (-33) t) := let ⟨t, e⟩ := c_NONE_THERE; ⟨t, PySem.W.mg_of X G e⟩
  have k_PRIMES_END : ∃ t, mg "PRIMES_END" = some (.int (200) t) := let ⟨t, e⟩ := c_PRIMES_END; ⟨t, PySem.W.mg_of X G e⟩
  have k_MOST_KEPT : ∃ t, mg "MOST_KEPT" = some (.int (12) t) := let ⟨t, e⟩ := c_MOST_KEPT; ⟨t, PySem.W.mg_of X G e⟩
  have k_BEGIN : ∃ t, mg "BEGIN" = some (.int (0) t) := let ⟨t, e⟩ := c_BEGIN; ⟨t, PySem.W.mg_of X G e⟩
  have T : Txt K mg C := ⟨hC.cl, hC.nP, hC.nS, hC.nK, PySem.W.mg_of X G hC.aC, PySem.W.mg_none_of X G n_len, PySem.W.mg_none_of X G n_range, PySem.W.mg_none_of X G n_max, PySem.W.mg_none_of X G n_enumerate, k_NO_SUCH_POINT, k_NOT_BEGUN, k_ALREADY_KEPT, k_NOT_FIT, k_FULL, k_NONE_THERE, k_PRIMES_END, k_MOST_KEPT, k_BEGIN⟩
  obtain ⟨f_is_odd_prime_in_bounds, fd_is_odd_prime_in_bounds, a_is_odd_prime_in_bounds, F_is_odd_prime_in_bounds⟩ := E_is_odd_prime_in_bounds
  have b_is_odd_prime_in_bounds := F_is_odd_prime_in_bounds.binds (ps := ["number"]) fun _ _ _ _ _ _ us hl => match us, hl with | [_], _ => rfl
  obtain ⟨f_squares_left_by, fd_squares_left_by, a_squares_left_by, F_squares_left_by⟩ := E_squares_left_by
  have b_squares_left_by := F_squares_left_by.binds (ps := ["prime"]) fun _ _ _ _ _ _ us hl => match us, hl with | [_], _ => rfl
  obtain ⟨f_leads_to, fd_leads_to, a_leads_to, F_leads_to⟩ := E_leads_to
  have b_leads_to := F_leads_to.binds (ps := ["ring", "source", "target"]) fun _ _ _ _ _ _ us hl => match us, hl with | [_, _, _], _ => rfl
  obtain ⟨f_each_leads_to, fd_each_leads_to, a_each_leads_to, F_each_leads_to⟩ := E_each_leads_to
  have b_each_leads_to := F_each_leads_to.binds (ps := ["ring", "sources", "target"]) fun _ _ _ _ _ _ us hl => match us, hl with | [_, _, _], _ => rfl
  obtain ⟨f_leads_to_each, fd_leads_to_each, a_leads_to_each, F_leads_to_each⟩ := E_leads_to_each
  have b_leads_to_each := F_leads_to_each.binds (ps := ["ring", "source", "targets"]) fun _ _ _ _ _ _ us hl => match us, hl with | [_, _, _], _ => rfl
  obtain ⟨f_led_to_by_each, fd_led_to_by_each, a_led_to_by_each, F_led_to_by_each⟩ := E_led_to_by_each
  have b_led_to_by_each := F_led_to_by_each.binds (ps := ["ring", "sources"]) fun _ _ _ _ _ _ us hl => match us, hl with | [_, _], _ => rfl
  obtain ⟨f_leading_to_each, fd_leading_to_each, a_leading_to_each, F_leading_to_each⟩ := E_leading_to_each
  have b_leading_to_each := F_leading_to_each.binds (ps := ["ring", "targets"]) fun _ _ _ _ _ _ us hl => match us, hl with | [_, _], _ => rfl
  obtain ⟨f_led_to_by_any, fd_led_to_by_any, a_led_to_by_any, F_led_to_by_any⟩ := E_led_to_by_any
  have b_led_to_by_any := F_led_to_by_any.binds (ps := ["ring", "sources"]) fun _ _ _ _ _ _ us hl => match us, hl with | [_, _], _ => rfl
  obtain ⟨f_how_often_led, fd_how_often_led, a_how_often_led, F_how_often_led⟩ := E_how_often_led
  have b_how_often_led := F_how_often_led.binds (ps := ["ring", "sources", "targets"]) fun _ _ _ _ _ _ us hl => match us, hl with | [_, _, _], _ => rfl
  obtain ⟨f_leads_both_ways, fd_leads_both_ways, a_leads_both_ways, F_leads_both_ways⟩ := E_leads_both_ways
  have b_leads_both_ways := F_leads_both_ways.binds (ps := ["ring"]) fun _ _ _ _ _ _ us hl => match us, hl with | [_], _ => rfl
  obtain ⟨f_how_many_pairs, fd_how_many_pairs, a_how_many_pairs, F_how_many_pairs⟩ := E_how_many_pairs
  have b_how_many_pairs := F_how_many_pairs.binds (ps := ["ring", "sources", "targets"]) fun _ _ _ _ _ _ us hl => match us, hl with | [_, _, _], _ => rfl
  obtain ⟨f_greatest_group_upon, fd_greatest_group_upon, a_greatest_group_upon, F_greatest_group_upon⟩ := E_greatest_group_upon
  have b_greatest_group_upon := F_greatest_group_upon.binds (ps := ["ring", "members", "fitting", "best"]) fun _ _ _ _ _ _ us hl => match us, hl with | [_, _, _, _], _ => rfl
  obtain ⟨f_counted, fd_counted, a_counted, F_counted⟩ := E_counted
  have b_counted := F_counted.binds (ps := ["points"]) fun _ _ _ _ _ _ us hl => match us, hl with | [_], _ => rfl
  obtain ⟨f_begin, fd_begin, a_begin, F_begin⟩ := E_begin
  have b_begin := F_begin.binds (ps := ["ring", "given"]) fun _ _ _ _ _ _ us hl => match us, hl with | [_, _], _ => rfl
  obtain ⟨f_put, fd_put, a_put, F_put⟩ := E_put
  have b_put := F_put.binds (ps := ["ring", "given"]) fun _ _ _ _ _ _ us hl => match us, hl with | [_, _], _ => rfl
  obtain ⟨f_take, fd_take, a_take, F_take⟩ := E_take
  have b_take := F_take.binds (ps := ["ring", "given"]) fun _ _ _ _ _ _ us hl => match us, hl with | [_, _], _ => rfl
  obtain ⟨f_tell_kept, fd_tell_kept, a_tell_kept, F_tell_kept⟩ := E_tell_kept
  have b_tell_kept := F_tell_kept.binds (ps := ["ring", "given"]) fun _ _ _ _ _ _ us hl => match us, hl with | [_, _], _ => rfl
  obtain ⟨f_move, fd_move, a_move, F_move⟩ := E_move
  have b_move := F_move.binds (ps := ["ring", "given"]) fun _ _ _ _ _ _ us hl => match us, hl with | [_, _], _ => rfl
  obtain ⟨f_times, fd_times, a_times, F_times⟩ := E_times
  have b_times := F_times.binds (ps := ["ring", "given"]) fun _ _ _ _ _ _ us hl => match us, hl with | [_, _], _ => rfl
  obtain ⟨f_grow, fd_grow, a_grow, F_grow⟩ := E_grow
  have b_grow := F_grow.binds (ps := ["ring", "given"]) fun _ _ _ _ _ _ us hl => match us, hl with | [_, _], _ => rfl
  obtain ⟨f_leads, fd_leads, a_leads, F_leads⟩ := E_leads
  have b_leads := F_leads.binds (ps := ["ring", "given"]) fun _ _ _ _ _ _ us hl => match us, hl with | [_, _], _ => rfl
  obtain ⟨f_of, fd_of, a_of, F_of⟩ := E_of
  have b_of := F_of.binds (ps := ["ring", "given"]) fun _ _ _ _ _ _ us hl => match us, hl with | [_, _], _ => rfl
  obtain ⟨f_common, fd_common, a_common, F_common⟩ := E_common
  have b_common := F_common.binds (ps := ["ring", "given"]) fun _ _ _ _ _ _ us hl => match us, hl with | [_, _], _ => rfl
  obtain ⟨f_into, fd_into, a_into, F_into⟩ := E_into
  have b_into := F_into.binds (ps := ["ring", "given"]) fun _ _ _ _ _ _ us hl => match us, hl with | [_, _], _ => rfl
  obtain ⟨f_rounds, fd_rounds, a_rounds, F_rounds⟩ := E_rounds
  have b_rounds := F_rounds.binds (ps := ["ring", "given"]) fun _ _ _ _ _ _ us hl => match us, hl with | [_, _], _ => rfl
  obtain ⟨f_differ, fd_differ, a_differ, F_differ⟩ := E_differ
  have b_differ := F_differ.binds (ps := ["ring", "given"]) fun _ _ _ _ _ _ us hl => match us, hl with | [_, _], _ => rfl
  obtain ⟨f_who, fd_who, a_who, F_who⟩ := E_who
  have b_who := F_who.binds (ps := ["ring", "given"]) fun _ _ _ _ _ _ us hl => match us, hl with | [_, _], _ => rfl
  obtain ⟨f_inner, fd_inner, a_inner, F_inner⟩ := E_inner
  have b_inner := F_inner.binds (ps := ["ring", "given"]) fun _ _ _ _ _ _ us hl => match us, hl with | [_, _], _ => rfl
  obtain ⟨f_group, fd_group, a_group, F_group⟩ := E_group
  have b_group := F_group.binds (ps := ["ring", "given"]) fun _ _ _ _ _ _ us hl => match us, hl with | [_, _], _ => rfl
  obtain ⟨f_greatest, fd_greatest, a_greatest, F_greatest⟩ := E_greatest
  have b_greatest := F_greatest.binds (ps := ["ring", "given"]) fun _ _ _ _ _ _ us hl => match us, hl with | [_, _], _ => rfl
  obtain ⟨f_steps, fd_steps, a_steps, F_steps⟩ := E_steps
  have b_steps := F_steps.binds (ps := ["ring", "given"]) fun _ _ _ _ _ _ us hl => match us, hl with | [_, _], _ => rfl
  obtain ⟨f_told, fd_told, a_told, F_told⟩ := E_told
  have b_told := F_told.binds (ps := ["ring", "given"]) fun _ _ _ _ _ _ us hl => match us, hl with | [_, _], _ => rfl
  obtain ⟨f_answer_of, fd_answer_of, a_answer_of, F_answer_of⟩ := E_answer_of
  have b_answer_of := F_answer_of.binds (ps := ["ring", "number", "given"]) fun _ _ _ _ _ _ us hl => match us, hl with | [_, _, _], _ => rfl
  obtain ⟨f_answers, fd_answers, a_answers, F_answers⟩ := E_answers
  have b_answers := F_answers.binds (ps := ["calls"]) fun _ _ _ _ _ _ us hl => match us, hl with | [_], _ => rfl
  have e := hfa.symm.trans (PySem.W.mg_of X G a_answers)
  cases e
  refine ⟨fd_answers, fun s us hu => ?_, fun base _ _ => ?_⟩
  · obtain ⟨oc, od, kV, doc, pm, an, cdv, ct, osl, rfl, lk, hcd⟩ := F_answers.ex
    match us, hu with
    | [_], _ => exact .of_eq rfl
  have D_is_odd_prime_in_bounds : Dfn P w K mg base 1 "is_odd_prime_in_bounds" ["number"] spPrime := dfn_of X G a_is_odd_prime_in_bounds F_is_odd_prime_in_bounds b_is_odd_prime_in_bounds (ok_prime F_is_odd_prime_in_bounds T)
  have D_squares_left_by : Dfn P w K mg base 1 "squares_left_by" ["prime"] spSquares := dfn_of X G a_squares_left_by F_squares_left_by b_squares_left_by (ok_squares F_squares_left_by T)
  have D_leads_to : Dfn P w K mg base 1 "leads_to" ["ring", "source", "target"] (spLeadsTo C) := dfn_of X G a_leads_to F_leads_to b_leads_to (ok_leadsTo F_leads_to T)
  have D_each_leads_to : Dfn P w K mg base 2 "each_leads_to" ["ring", "sources", "target"] (spEachLeads K C) := dfn_of X G a_each_leads_to F_each_leads_to b_each_leads_to (ok_eachLeads F_each_leads_to T D_leads_to)
  have D_leads_to_each : Dfn P w K mg base 2 "leads_to_each" ["ring", "source", "targets"] (spLeadsEach K C) := dfn_of X G a_leads_to_each F_leads_to_each b_leads_to_each (ok_leadsEach F_leads_to_each T D_leads_to)
  have D_led_to_by_each : Dfn P w K mg base 3 "led_to_by_each" ["ring", "sources"] (spLedBy K C) := dfn_of X G a_led_to_by_each F_led_to_by_each b_led_to_by_each (ok_ledBy F_led_to_by_each T D_each_leads_to)
  have D_leading_to_each : Dfn P w K mg base 3 "leading_to_each" ["ring", "targets"] (spLeadingEach K C) := dfn_of X G a_leading_to_each F_leading_to_each b_leading_to_each (ok_leadingEach F_leading_to_each T D_leads_to_each)
  have D_led_to_by_any : Dfn P w K mg base 1 "led_to_by_any" ["ring", "sources"] (spLedByAny C) := dfn_of X G a_led_to_by_any F_led_to_by_any b_led_to_by_any (ok_ledByAny F_led_to_by_any T)
  have D_how_often_led : Dfn P w K mg base 2 "how_often_led" ["ring", "sources", "targets"] (spOften K C) := dfn_of X G a_how_often_led F_how_often_led b_how_often_led (ok_often F_how_often_led T D_leads_to)
  have D_leads_both_ways : Dfn P w K mg base 1 "leads_both_ways" ["ring"] (spBoth C) := dfn_of X G a_leads_both_ways F_leads_both_ways b_leads_both_ways (ok_both F_leads_both_ways T)
  have D_how_many_pairs : Dfn P w K mg base 3 "how_many_pairs" ["ring", "sources", "targets"] (spPairs K C) := dfn_of X G a_how_many_pairs F_how_many_pairs b_how_many_pairs (ok_pairs F_how_many_pairs T D_how_often_led D_leads_both_ways)
  have D_greatest_group_upon : Dfn P w K mg base 202 "greatest_group_upon" ["ring", "members", "fitting", "best"] (spUpon C 201) := dfn_of X G a_greatest_group_upon F_greatest_group_upon b_greatest_group_upon (ok_upon F_greatest_group_upon T D_leads_to (fun k sp ok => dfn_of X G a_greatest_group_upon F_greatest_group_upon b_greatest_group_upon ok) 201)
  have D_counted : Dfn P w K mg base 1 "counted" ["points"] spCounted := dfn_of X G a_counted F_counted b_counted (ok_counted F_counted T)
  have N_begin : Entry P w K mg base C aT ptCalls 203 0 := ⟨f_begin, fd_begin, kat_rows lT rT (nsAll_at (j := 0) (x := "begin") sT rfl a_begin), F_begin.kp, (FnOk.imp (ok_begin F_begin T D_is_odd_prime_in_bounds D_squares_left_by) (spH_imp pre_B)).mono (by decide), b_begin⟩
  have N_put : Entry P w K mg base C aT ptCalls 203 1 := ⟨f_put, fd_put, kat_rows lT rT (nsAll_at (j := 1) (x := "put") sT rfl a_put), F_put.kp, (FnOk.imp (ok_put F_put T) (spH_imp (pre_1 (j := 1) (by decide) rfl (by decide)))).mono (by decide), b_put⟩
  have N_take : Entry P w K mg base C aT ptCalls 203 2 := ⟨f_take, fd_take, kat_rows lT rT (nsAll_at (j := 2) (x := "take") sT rfl a_take), F_take.kp, (FnOk.imp (ok_take F_take T) (spH_imp (pre_1' (j := 2) (by decide) rfl))).mono (by decide), b_take⟩
  have N_tell_kept : Entry P w K mg base C aT ptCalls 203 3 := ⟨f_tell_kept, fd_tell_kept, kat_rows lT rT (nsAll_at (j := 3) (x := "tell_kept") sT rfl a_tell_kept), F_tell_kept.kp, (FnOk.imp (ok_tellKept F_tell_kept T D_counted) (spH_imp (pre_0 (j := 3) (by decide) rfl))).mono (by decide), b_tell_kept⟩
  have N_move : Entry P w K mg base C aT ptCalls 203 4 := ⟨f_move, fd_move, kat_rows lT rT (nsAll_at (j := 4) (x := "move") sT rfl a_move), F_move.kp, (FnOk.imp (ok_move F_move T D_counted) (spH_imp (pre_1' (j := 4) (by decide) rfl))).mono (by decide), b_move⟩
  have N_times : Entry P w K mg base C aT ptCalls 203 5 := ⟨f_times, fd_times, kat_rows lT rT (nsAll_at (j := 5) (x := "times") sT rfl a_times), F_times.kp, (FnOk.imp (ok_times F_times T D_counted) (spH_imp (pre_T (j := 5) (by decide) rfl))).mono (by decide), b_times⟩
  have N_grow : Entry P w K mg base C aT ptCalls 203 6 := ⟨f_grow, fd_grow, kat_rows lT rT (nsAll_at (j := 6) (x := "grow") sT rfl a_grow), F_grow.kp, (FnOk.imp (ok_grow F_grow T D_leading_to_each) (spH_imp (pre_0 (j := 6) (by decide) rfl))).mono (by decide), b_grow⟩
  have N_leads : Entry P w K mg base C aT ptCalls 203 7 := ⟨f_leads, fd_leads, kat_rows lT rT (nsAll_at (j := 7) (x := "leads") sT rfl a_leads), F_leads.kp, (FnOk.imp (ok_leads F_leads T D_leads_to) (spH_imp (pre_2 (j := 7) (by decide) rfl (by decide)))).mono (by decide), b_leads⟩
  have N_of : Entry P w K mg base C aT ptCalls 203 8 := ⟨f_of, fd_of, kat_rows lT rT (nsAll_at (j := 8) (x := "of") sT rfl a_of), F_of.kp, (FnOk.imp (ok_of F_of T D_counted D_led_to_by_each) (spH_imp (pre_1 (j := 8) (by decide) rfl (by decide)))).mono (by decide), b_of⟩
  have N_common : Entry P w K mg base C aT ptCalls 203 9 := ⟨f_common, fd_common, kat_rows lT rT (nsAll_at (j := 9) (x := "common") sT rfl a_common), F_common.kp, (FnOk.imp (ok_common F_common T D_counted D_led_to_by_each) (spH_imp (pre_2 (j := 9) (by decide) rfl (by decide)))).mono (by decide), b_common⟩
  have N_into : Entry P w K mg base C aT ptCalls 203 10 := ⟨f_into, fd_into, kat_rows lT rT (nsAll_at (j := 10) (x := "into") sT rfl a_into), F_into.kp, (FnOk.imp (ok_into F_into T D_counted D_leading_to_each) (spH_imp (pre_2 (j := 10) (by decide) rfl (by decide)))).mono (by decide), b_into⟩
  have N_rounds : Entry P w K mg base C aT ptCalls 203 11 := ⟨f_rounds, fd_rounds, kat_rows lT rT (nsAll_at (j := 11) (x := "rounds") sT rfl a_rounds), F_rounds.kp, (FnOk.imp (ok_rounds F_rounds T D_led_to_by_each D_leading_to_each D_how_many_pairs) (spH_imp (pre_1 (j := 11) (by decide) rfl (by decide)))).mono (by decide), b_rounds⟩
  have N_differ : Entry P w K mg base C aT ptCalls 203 12 := ⟨f_differ, fd_differ, kat_rows lT rT (nsAll_at (j := 12) (x := "differ") sT rfl a_differ), F_differ.kp, (FnOk.imp (ok_differ F_differ T) (spH_imp (pre_1' (j := 12) (by decide) rfl))).mono (by decide), b_differ⟩
  have N_who : Entry P w K mg base C aT ptCalls 203 13 := ⟨f_who, fd_who, kat_rows lT rT (nsAll_at (j := 13) (x := "who") sT rfl a_who), F_who.kp, (FnOk.imp (ok_who F_who T D_counted D_leading_to_each) (spH_imp (pre_0 (j := 13) (by decide) rfl))).mono (by decide), b_who⟩
  have N_inner : Entry P w K mg base C aT ptCalls 203 14 := ⟨f_inner, fd_inner, kat_rows lT rT (nsAll_at (j := 14) (x := "inner") sT rfl a_inner), F_inner.kp, (FnOk.imp (ok_inner F_inner T D_how_many_pairs) (spH_imp (pre_0 (j := 14) (by decide) rfl))).mono (by decide), b_inner⟩
  have N_group : Entry P w K mg base C aT ptCalls 203 15 := ⟨f_group, fd_group, kat_rows lT rT (nsAll_at (j := 15) (x := "group") sT rfl a_group), F_group.kp, (FnOk.imp (ok_group F_group T D_how_often_led) (spH_imp (pre_0 (j := 15) (by decide) rfl))).mono (by decide), b_group⟩
  have N_greatest : Entry P w K mg base C aT ptCalls 203 16 := ⟨f_greatest, fd_greatest, kat_rows lT rT (nsAll_at (j := 16) (x := "greatest") sT rfl a_greatest), F_greatest.kp, (FnOk.imp (ok_greatest F_greatest T D_counted D_leads_both_ways D_led_to_by_each D_greatest_group_upon) (spH_imp (pre_0 (j := 16) (by decide) rfl))).mono (by decide), b_greatest⟩
  have N_steps : Entry P w K mg base C aT ptCalls 203 17 := ⟨f_steps, fd_steps, kat_rows lT rT (nsAll_at (j := 17) (x := "steps") sT rfl a_steps), F_steps.kp, (FnOk.imp (ok_steps F_steps T D_led_to_by_any) (spH_imp (pre_2 (j := 17) (by decide) rfl (by decide)))).mono (by decide), b_steps⟩
  have N_told : Entry P w K mg base C aT ptCalls 203 18 := ⟨f_told, fd_told, kat_rows lT rT (nsAll_at (j := 18) (x := "told") sT rfl a_told), F_told.kp, (FnOk.imp (ok_told F_told T) (spH_imp (pre_0 (j := 18) (by decide) rfl))).mono (by decide), b_told⟩
  have tab : ∀ j : Nat, j ≤ 18 → Entry P w K mg base C aT ptCalls 203 j := fun j hj => by
    match j, hj with
    | 0, _ => exact N_begin
    | 1, _ => exact N_put
    | 2, _ => exact N_take
    | 3, _ => exact N_tell_kept
    | 4, _ => exact N_move
    | 5, _ => exact N_times
    | 6, _ => exact N_grow
    | 7, _ => exact N_leads
    | 8, _ => exact N_of
    | 9, _ => exact N_common
    | 10, _ => exact N_into
    | 11, _ => exact N_rounds
    | 12, _ => exact N_differ
    | 13, _ => exact N_who
    | 14, _ => exact N_inner
    | 15, _ => exact N_group
    | 16, _ => exact N_greatest
    | 17, _ => exact N_steps
    | 18, _ => exact N_told
    | j + 19, hj => omega
  have D_answer_of := dfn_of (P := P) (w := w) (base := base) X G a_answer_of F_answer_of b_answer_of (ok_answerOf F_answer_of T (fun j h => h) (PySem.W.mg_of X G a_T) (PySem.W.mg_of X G a_P) tP tab)
  exact ok_answers (n := 204) (by decide) F_answers T hC.made (ok_init F_I T) b_I (PySem.W.mg_of X G a_A) tA D_answer_of
end Px
set_option Elab.async false
set_option linter.all false
open PySem PySem.W PyProof.Rows
set_option maxRecDepth 100000 in
set_option maxHeartbeats 0 in
theorem PySem.Challenge.cw_primering_s01_answers_holds : PySem.Challenge.rw_primering_s01_answers.Holds := by
  w_on; k_headS; (case hw => exact ⟨[.list [.int 18]], by decide +kernel, by decide +kernel⟩)
  k_fillS
  refine L2.walk_specK (r := PySem.Challenge.rw_primering_s01_answers) (k := 206) (CX := L2.CX0) (ps := ["calls"]) (sp := Px.spAns) (by decide +kernel) rfl rfl ⟨rfl, by decide, by decide⟩ (fun w h Y => PySem.W.kIn_of Y) ?F ?S (fun _ _ _ _ z => z)
  case F =>
    intro w mg fa h Y KX G hmg
    have D_is_odd_prime_in_bounds : ∃ f, Px.DefIn (L2.KOf KX) "is_odd_prime_in_bounds" Px.sPrime f := by
      dsimp only [L2.KOf]
      refine' Px.defIn_mk ?a ?l ?c ?k
      (case a => k_is); (case l => k_is); (case c => k_is); (case k => k_is)
    have D_squares_left_by : ∃ f, Px.DefIn (L2.KOf KX) "squares_left_by" Px.sSquares f := by
      dsimp only [L2.KOf]
      refine' Px.defIn_mk ?a ?l ?c ?k
      (case a => k_is); (case l => k_is); (case c => k_is); (case k => k_is)
    have D_leads_to : ∃ f, Px.DefIn (L2.KOf KX) "leads_to" Px.sLeadsTo f := by
      dsimp only [L2.KOf]
      refine' Px.defIn_mk ?a ?l ?c ?k
      (case a => k_is); (case l => k_is); (case c => k_is); (case k => k_is)
    have D_each_leads_to : ∃ f, Px.DefIn (L2.KOf KX) "each_leads_to" Px.sEachLeads f := by
      dsimp only [L2.KOf]
      refine' Px.defIn_mk ?a ?l ?c ?k
      (case a => k_is); (case l => k_is); (case c => k_is); (case k => k_is)
    have D_leads_to_each : ∃ f, Px.DefIn (L2.KOf KX) "leads_to_each" Px.sLeadsEach f := by
      dsimp only [L2.KOf]
      refine' Px.defIn_mk ?a ?l ?c ?k
      (case a => k_is); (case l => k_is); (case c => k_is); (case k => k_is)
    have D_led_to_by_each : ∃ f, Px.DefIn (L2.KOf KX) "led_to_by_each" Px.sLedBy f := by
      dsimp only [L2.KOf]
      refine' Px.defIn_mk ?a ?l ?c ?k
      (case a => k_is); (case l => k_is); (case c => k_is); (case k => k_is)
    have D_leading_to_each : ∃ f, Px.DefIn (L2.KOf KX) "leading_to_each" Px.sLeadingEach f := by
      dsimp only [L2.KOf]
      refine' Px.defIn_mk ?a ?l ?c ?k
      (case a => k_is); (case l => k_is); (case c => k_is); (case k => k_is)
    have D_led_to_by_any : ∃ f, Px.DefIn (L2.KOf KX) "led_to_by_any" Px.sLedByAny f := by
      dsimp only [L2.KOf]
      refine' Px.defIn_mk ?a ?l ?c ?k
      (case a => k_is); (case l => k_is); (case c => k_is); (case k => k_is)
    have D_how_often_led : ∃ f, Px.DefIn (L2.KOf KX) "how_often_led" Px.sOften f := by
      dsimp only [L2.KOf]
      refine' Px.defIn_mk ?a ?l ?c ?k
      (case a => k_is); (case l => k_is); (case c => k_is); (case k => k_is)
    have D_leads_both_ways : ∃ f, Px.DefIn (L2.KOf KX) "leads_both_ways" Px.sBothWays f := by
      dsimp only [L2.KOf]
      refine' Px.defIn_mk ?a ?l ?c ?k
      (case a => k_is); (case l => k_is); (case c => k_is); (case k => k_is)
    have D_how_many_pairs : ∃ f, Px.DefIn (L2.KOf KX) "how_many_pairs" Px.sPairs f := by
      dsimp only [L2.KOf]
      refine' Px.defIn_mk ?a ?l ?c ?k
      (case a => k_is); (case l => k_is); (case c => k_is); (case k => k_is)
    have D_greatest_group_upon : ∃ f, Px.DefIn (L2.KOf KX) "greatest_group_upon" Px.sGroupUpon f := by
      dsimp only [L2.KOf]
      refine' Px.defIn_mk ?a ?l ?c ?k
      (case a => k_is); (case l => k_is); (case c => k_is); (case k => k_is)
    have D_counted : ∃ f, Px.DefIn (L2.KOf KX) "counted" Px.sCounted f := by
      dsimp only [L2.KOf]
      refine' Px.defIn_mk ?a ?l ?c ?k
      (case a => k_is); (case l => k_is); (case c => k_is); (case k => k_is)
    have D_begin : ∃ f, Px.DefIn (L2.KOf KX) "begin" Px.sBegin f := by
      dsimp only [L2.KOf]
      refine' Px.defIn_mk ?a ?l ?c ?k
      (case a => k_is); (case l => k_is); (case c => k_is); (case k => k_is)
    have D_put : ∃ f, Px.DefIn (L2.KOf KX) "put" Px.sPut f := by
      dsimp only [L2.KOf]
      refine' Px.defIn_mk ?a ?l ?c ?k
      (case a => k_is); (case l => k_is); (case c => k_is); (case k => k_is)
    have D_take : ∃ f, Px.DefIn (L2.KOf KX) "take" Px.sTake f := by
      dsimp only [L2.KOf]
      refine' Px.defIn_mk ?a ?l ?c ?k
      (case a => k_is); (case l => k_is); (case c => k_is); (case k => k_is)
    have D_tell_kept : ∃ f, Px.DefIn (L2.KOf KX) "tell_kept" Px.sTellKept f := by
      dsimp only [L2.KOf]
      refine' Px.defIn_mk ?a ?l ?c ?k
      (case a => k_is); (case l => k_is); (case c => k_is); (case k => k_is)
    have D_move : ∃ f, Px.DefIn (L2.KOf KX) "move" Px.sMove f := by
      dsimp only [L2.KOf]
      refine' Px.defIn_mk ?a ?l ?c ?k
      (case a => k_is); (case l => k_is); (case c => k_is); (case k => k_is)
    have D_times : ∃ f, Px.DefIn (L2.KOf KX) "times" Px.sTimes f := by
      dsimp only [L2.KOf]
      refine' Px.defIn_mk ?a ?l ?c ?k
      (case a => k_is); (case l => k_is); (case c => k_is); (case k => k_is)
    have D_grow : ∃ f, Px.DefIn (L2.KOf KX) "grow" Px.sGrow f := by
      dsimp only [L2.KOf]
      refine' Px.defIn_mk ?a ?l ?c ?k
      (case a => k_is); (case l => k_is); (case c => k_is); (case k => k_is)
    have D_leads : ∃ f, Px.DefIn (L2.KOf KX) "leads" Px.sLeads f := by
      dsimp only [L2.KOf]
      refine' Px.defIn_mk ?a ?l ?c ?k
      (case a => k_is); (case l => k_is); (case c => k_is); (case k => k_is)
    have D_of : ∃ f, Px.DefIn (L2.KOf KX) "of" Px.sOf f := by
      dsimp only [L2.KOf]
      refine' Px.defIn_mk ?a ?l ?c ?k
      (case a => k_is); (case l => k_is); (case c => k_is); (case k => k_is)
    have D_common : ∃ f, Px.DefIn (L2.KOf KX) "common" Px.sCommon f := by
      dsimp only [L2.KOf]
      refine' Px.defIn_mk ?a ?l ?c ?k
      (case a => k_is); (case l => k_is); (case c => k_is); (case k => k_is)
    have D_into : ∃ f, Px.DefIn (L2.KOf KX) "into" Px.sInto f := by
      dsimp only [L2.KOf]
      refine' Px.defIn_mk ?a ?l ?c ?k
      (case a => k_is); (case l => k_is); (case c => k_is); (case k => k_is)
    have D_rounds : ∃ f, Px.DefIn (L2.KOf KX) "rounds" Px.sRounds f := by
      dsimp only [L2.KOf]
      refine' Px.defIn_mk ?a ?l ?c ?k
      (case a => k_is); (case l => k_is); (case c => k_is); (case k => k_is)
    have D_differ : ∃ f, Px.DefIn (L2.KOf KX) "differ" Px.sDiffer f := by
      dsimp only [L2.KOf]
      refine' Px.defIn_mk ?a ?l ?c ?k
      (case a => k_is); (case l => k_is); (case c => k_is); (case k => k_is)
    have D_who : ∃ f, Px.DefIn (L2.KOf KX) "who" Px.sWho f := by
      dsimp only [L2.KOf]
      refine' Px.defIn_mk ?a ?l ?c ?k
      (case a => k_is); (case l => k_is); (case c => k_is); (case k => k_is)
    have D_inner : ∃ f, Px.DefIn (L2.KOf KX) "inner" Px.sInner f := by
      dsimp only [L2.KOf]
      refine' Px.defIn_mk ?a ?l ?c ?k
      (case a => k_is); (case l => k_is); (case c => k_is); (case k => k_is)
    have D_group : ∃ f, Px.DefIn (L2.KOf KX) "group" Px.sGroup f := by
      dsimp only [L2.KOf]
      refine' Px.defIn_mk ?a ?l ?c ?k
      (case a => k_is); (case l => k_is); (case c => k_is); (case k => k_is)
    have D_greatest : ∃ f, Px.DefIn (L2.KOf KX) "greatest" Px.sGreatest f := by
      dsimp only [L2.KOf]
      refine' Px.defIn_mk ?a ?l ?c ?k
      (case a => k_is); (case l => k_is); (case c => k_is); (case k => k_is)
    have D_steps : ∃ f, Px.DefIn (L2.KOf KX) "steps" Px.sSteps f := by
      dsimp only [L2.KOf]
      refine' Px.defIn_mk ?a ?l ?c ?k
      (case a => k_is); (case l => k_is); (case c => k_is); (case k => k_is)
    have D_told : ∃ f, Px.DefIn (L2.KOf KX) "told" Px.sTold f := by
      dsimp only [L2.KOf]
      refine' Px.defIn_mk ?a ?l ?c ?k
      (case a => k_is); (case l => k_is); (case c => k_is); (case k => k_is)
    have D_answer_of : ∃ f, Px.DefIn (L2.KOf KX) "answer_of" Px.sAnswerOf f := by
      dsimp only [L2.KOf]
      refine' Px.defIn_mk ?a ?l ?c ?k
      (case a => k_is); (case l => k_is); (case c => k_is); (case k => k_is)
    have D_answers : ∃ f, Px.DefIn (L2.KOf KX) "answers" Px.sAnswers f := by
      dsimp only [L2.KOf]
      refine' Px.defIn_mk ?a ?l ?c ?k
      (case a => k_is); (case l => k_is); (case c => k_is); (case k => k_is)
    have c_NO_SUCH_POINT : ∃ t, PySem.W.nsIn (L2.KOf KX) mainGlobals "NO_SUCH_POINT" = some (some (.int (-2) t)) := by
      dsimp only [L2.KOf]
      refine' Px.intIn_mk ?e
      (case e => k_is)
    have c_NOT_BEGUN : ∃ t, PySem.W.nsIn (L2.KOf KX) mainGlobals "NOT_BEGUN" = some (some (.int (-11) t)) := by
      dsimp only [L2.KOf]
      refine' Px.intIn_mk ?e
      (case e => k_is)
    have c_ALREADY_KEPT : ∃ t, PySem.W.nsIn (L2.KOf KX) mainGlobals "ALREADY_KEPT" = some (some (.int (-17) t)) := by
      dsimp only [L2.KOf]
      refine' Px.intIn_mk ?e
      (case e => k_is)
    have c_NOT_FIT : ∃ t, PySem.W.nsIn (L2.KOf KX) mainGlobals "NOT_FIT" = some (some (.int (-22) t)) := by
      dsimp only [L2.KOf]
      refine' Px.intIn_mk ?e
      (case e => k_is)
    have c_FULL : ∃ t, PySem.W.nsIn (L2.KOf KX) mainGlobals "FULL" = some (some (.int (-28) t)) := by
      dsimp only [L2.KOf]
      refine' Px.intIn_mk ?e
      (case e => k_is)
    have c_NONE_THERE : ∃ t, PySem.W.nsIn (L2.KOf KX) mainGlobals "NONE_THERE" = some (some (.int (-33) t)) := by
      dsimp only [L2.KOf]
      refine' Px.intIn_mk ?e
      (case e => k_is)
    have c_PRIMES_END : ∃ t, PySem.W.nsIn (L2.KOf KX) mainGlobals "PRIMES_END" = some (some (.int (200) t)) := by
      dsimp only [L2.KOf]
      refine' Px.intIn_mk ?e
      (case e => k_is)
    have c_MOST_KEPT : ∃ t, PySem.W.nsIn (L2.KOf KX) mainGlobals "MOST_KEPT" = some (some (.int (12) t)) := by
      dsimp only [L2.KOf]
      refine' Px.intIn_mk ?e
      (case e => k_is)
    have c_BEGIN : ∃ t, PySem.W.nsIn (L2.KOf KX) mainGlobals "BEGIN" = some (some (.int (0) t)) := by
      dsimp only [L2.KOf]
      refine' Px.intIn_mk ?e
      (case e => k_is)
    have n_len : PySem.W.nsIn (L2.KOf KX) mainGlobals "len" = some none := by
      dsimp only [L2.KOf]
      k_is
    have n_range : PySem.W.nsIn (L2.KOf KX) mainGlobals "range" = some none := by
      dsimp only [L2.KOf]
      k_is
    have n_max : PySem.W.nsIn (L2.KOf KX) mainGlobals "max" = some none := by
      dsimp only [L2.KOf]
      k_is
    have n_enumerate : PySem.W.nsIn (L2.KOf KX) mainGlobals "enumerate" = some none := by
      dsimp only [L2.KOf]
      k_is
    have hC : ∃ C fI, Px.ClsIn (L2.KOf KX) C fI := by
      dsimp only [L2.KOf]
      refine' Px.clsIn_mk ?aC ?a1 ?i1 ?l1 ?c1 ?k1 ?pg ?hd ?po ?sa ?mk ?kc ?nP ?nS ?nK
      (case aC => k_is); (case a1 => k_is); (case i1 => k_is); (case l1 => k_is); (case c1 => k_is); (case k1 => k_is)
      (case pg => k_is); (case hd => k_is); (case po => k_is); (case sa => k_is); (case mk => k_is); (case kc => k_is); (case nP => k_is); (case nS => k_is); (case nK => k_is)
    have hT : ∃ d, Px.TabNs (L2.KOf KX) "CALLS" Px.callNames d := by
      dsimp only [L2.KOf]
      refine' Px.tabNs_mk19 ?a ?l ?s0 ?s1 ?s2 ?s3 ?s4 ?s5 ?s6 ?s7 ?s8 ?s9 ?s10 ?s11 ?s12 ?s13 ?s14 ?s15 ?s16 ?s17 ?s18 ?r
      (case a => k_is); (case l => k_is)
      (case s0 => k_is); (case s1 => k_is); (case s2 => k_is); (case s3 => k_is); (case s4 => k_is); (case s5 => k_is); (case s6 => k_is); (case s7 => k_is); (case s8 => k_is); (case s9 => k_is); (case s10 => k_is); (case s11 => k_is); (case s12 => k_is); (case s13 => k_is); (case s14 => k_is); (case s15 => k_is); (case s16 => k_is); (case s17 => k_is); (case s18 => k_is)
      case r => exact ⟨⟨_, rfl, rfl, rfl⟩, ⟨_, rfl, rfl, rfl⟩, ⟨_, rfl, rfl, rfl⟩, ⟨_, rfl, rfl, rfl⟩, ⟨_, rfl, rfl, rfl⟩, ⟨_, rfl, rfl, rfl⟩, ⟨_, rfl, rfl, rfl⟩, ⟨_, rfl, rfl, rfl⟩, ⟨_, rfl, rfl, rfl⟩, ⟨_, rfl, rfl, rfl⟩, ⟨_, rfl, rfl, rfl⟩, ⟨_, rfl, rfl, rfl⟩, ⟨_, rfl, rfl, rfl⟩, ⟨_, rfl, rfl, rfl⟩, ⟨_, rfl, rfl, rfl⟩, ⟨_, rfl, rfl, rfl⟩, ⟨_, rfl, rfl, rfl⟩, ⟨_, rfl, rfl, rfl⟩, ⟨_, rfl, rfl, rfl⟩, trivial⟩
    have h_CALLS_OF_POINTS : ∃ d, Px.TupIn (L2.KOf KX) "CALLS_OF_POINTS" Px.ptCalls d := by
      dsimp only [L2.KOf]
      refine' Px.tupIn_mk ?a ?l ?z ?r
      (case a => k_is); (case l => k_is)
      case z => decide
      case r => exact .cons ⟨_, rfl⟩ (.cons ⟨_, rfl⟩ (.cons ⟨_, rfl⟩ (.cons ⟨_, rfl⟩ (.cons ⟨_, rfl⟩ (.cons ⟨_, rfl⟩ (.cons ⟨_, rfl⟩ (.cons ⟨_, rfl⟩ .nil)))))))
    have h_ARGUMENT_COUNTS : ∃ d, Px.TupIn (L2.KOf KX) "ARGUMENT_COUNTS" Px.counts d := by
      dsimp only [L2.KOf]
      refine' Px.tupIn_mk ?a ?l ?z ?r
      (case a => k_is); (case l => k_is)
      case z => decide
      case r => exact .cons ⟨_, rfl⟩ (.cons ⟨_, rfl⟩ (.cons ⟨_, rfl⟩ (.cons ⟨_, rfl⟩ (.cons ⟨_, rfl⟩ (.cons ⟨_, rfl⟩ (.cons ⟨_, rfl⟩ (.cons ⟨_, rfl⟩ (.cons ⟨_, rfl⟩ (.cons ⟨_, rfl⟩ (.cons ⟨_, rfl⟩ (.cons ⟨_, rfl⟩ (.cons ⟨_, rfl⟩ (.cons ⟨_, rfl⟩ (.cons ⟨_, rfl⟩ (.cons ⟨_, rfl⟩ (.cons ⟨_, rfl⟩ (.cons ⟨_, rfl⟩ (.cons ⟨_, rfl⟩ .nil))))))))))))))))))
    exact Px.all_mk KX G hmg hC hT h_CALLS_OF_POINTS h_ARGUMENT_COUNTS D_is_odd_prime_in_bounds D_squares_left_by D_leads_to D_each_leads_to D_leads_to_each D_led_to_by_each D_leading_to_each D_led_to_by_any D_how_often_led D_leads_both_ways D_how_many_pairs D_greatest_group_upon D_counted D_begin D_put D_take D_tell_kept D_move D_times D_grow D_leads D_of D_common D_into D_rounds D_differ D_who D_inner D_group D_greatest D_steps D_told D_answer_of D_answers c_NO_SUCH_POINT c_NOT_BEGUN c_ALREADY_KEPT c_NOT_FIT c_FULL c_NONE_THERE c_PRIMES_END c_MOST_KEPT c_BEGIN n_len n_range n_max n_enumerate
  case S =>
    intro K H xs a hO hwi hask hx
    cases hx with
    | cons h1 h2 =>
      cases h2
      cases h1 with
      | lst hs ha =>
        have e := L2.ints_dw a.1 _ ha
        subst e
        have q : ((Codec.inLen 0 180 a.1 && a.1.all (Codec.inInt 0 4294967295)) && true) = true := hwi
        rw [Bool.and_eq_true, Bool.and_eq_true] at q
        refine ⟨_, a.1, rfl, hs, (Codec.inNat_iff.mp q.1.1).2, fun x hx => ?_, hask, fun H' p hp => .lst (L2.SqL.of hp) (L2.dw_ints _)⟩
        have := List.all_eq_true.mp q.1.2 x hx
        exact Codec.inInt_iff.mp this
#print axioms PySem.Challenge.cw_primering_s01_answers_holds
