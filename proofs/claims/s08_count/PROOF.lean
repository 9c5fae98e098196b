import PyProof.Rows.All
import Wide.All
import OpenK.AllK
import Wide.FinOn
import PyProof.EqAt
import PyProof.EqKinds
import PyProof.TupleCall
import KE.BitLaws
import Open.SpecLaws
import KE.OsHead
import KE.OsGo
import PySem.Challenge.RW_toandfrodesk_s08_count
set_option Elab.async false
set_option linter.all false
set_option maxRecDepth 100000
set_option Elab.async false
set_option linter.all false
set_option maxRecDepth 100000
/-! THE HAND LAYER, for ints, bools, texts, own classes, lists, tuples, dicts, comprehensions, walks over dicts, enumerate, zip, reversed, texts, calls, loops. Paste it whole ahead of your own text; what your proof does not reach may be deleted. -/
namespace L2
open PySem PySem.Spec PyProof.Rows

/-- a key: an int or a str -/
abbrev Key := Sum Int Str
def keyIs : Key → Value → Bool
  | .inl k, v => Value.isInt k v
  | .inr x, v => Value.isStrOf x v
def keyH (w : World) : Key → Int
  | .inl k => hashInt k
  | .inr x => hashStr w x
theorem keyIs_shape : ∀ {k : Key} {v : Value}, keyIs k v = true → (∃ i t, k = Sum.inl i ∧ v = Value.int i t) ∨ (∃ x t, k = Sum.inr x ∧ v = Value.str x t)
  | .inl i, v, h => by
    obtain ⟨t, e⟩ := Value.isInt_shape (k := i) (v := v) h
    exact .inl ⟨i, t, rfl, e⟩
  | .inr x, v, h => by
    obtain ⟨t, e⟩ := Value.isStrOf_shape (x := x) (v := v) h
    exact .inr ⟨x, t, rfl, e⟩
theorem keyIs_int (i : Int) (t : Tok) : keyIs (.inl i) (.int i t) = true := by simp [keyIs, Value.isInt]
theorem keyIs_str (x : Str) (t : Tok) : keyIs (.inr x) (.str x t) = true := by simp [keyIs, Value.isStrOf]
theorem key_ll (a b : Int) : decide ((Sum.inl a : Key) = Sum.inl b) = (a == b) := by
  by_cases e : a = b
  · subst e; simp
  · have h : ¬ (Sum.inl a : Key) = Sum.inl b := fun q => e (Sum.inl.inj q)
    rw [decide_eq_false h]
    exact (beq_eq_false_iff_ne.mpr e).symm
theorem key_rr (a b : Str) : decide ((Sum.inr a : Key) = Sum.inr b) = decide (a = b) := by
  by_cases e : a = b
  · subst e; simp
  · have h : ¬ (Sum.inr a : Key) = Sum.inr b := fun q => e (Sum.inr.inj q)
    rw [decide_eq_false h, decide_eq_false e]
theorem key_lr (a : Int) (b : Str) : decide ((Sum.inl a : Key) = Sum.inr b) = false := decide_eq_false (fun q => nomatch q)
theorem key_rl (a : Str) (b : Int) : decide ((Sum.inr a : Key) = Sum.inl b) = false := decide_eq_false (fun q => nomatch q)

def mixKind (prog : Program) (w : World) : PySem.KeyKind prog w Key where
  is := keyIs
  hash := keyH w
  inj := fun v a b ha hb => by
    rcases keyIs_shape ha with ⟨i, t, rfl, rfl⟩ | ⟨x, t, rfl, rfl⟩
    · rcases keyIs_shape hb with ⟨j, u, rfl, e⟩ | ⟨y, u, rfl, e⟩
      · injection e with e1 _; rw [e1]
      · exact nomatch e
    · rcases keyIs_shape hb with ⟨j, u, rfl, e⟩ | ⟨y, u, rfl, e⟩
      · exact nomatch e
      · injection e with e1 _; rw [e1]
  byValue := fun k v h => by
    rcases keyIs_shape h with ⟨i, t, rfl, rfl⟩ | ⟨x, t, rfl, rfl⟩ <;> rfl
  pyHash := fun hv h => by
    rcases keyIs_shape hv with ⟨i, t, rfl, rfl⟩ | ⟨x, t, rfl, rfl⟩
    · exact wpAny_pyHash_int h
    · exact wpAny_pyHash_str h
  eqBool := fun hu hv h => by
    rcases keyIs_shape hu with ⟨i, t, rfl, rfl⟩ | ⟨x, t, rfl, rfl⟩
    · rcases keyIs_shape hv with ⟨j, u, rfl, rfl⟩ | ⟨y, u, rfl, rfl⟩
      · rw [key_ll] at h; exact wpAny_eqBool_int h
      · rw [key_lr] at h; exact SeqAt.EqAt.int_str i t y u _ _ _ _ h
    · rcases keyIs_shape hv with ⟨j, u, rfl, rfl⟩ | ⟨y, u, rfl, rfl⟩
      · rw [key_rl] at h; exact SeqAt.EqAt.str_int x t j u _ _ _ _ h
      · rw [key_rr] at h; exact wpAny_eqBool_str h
  «strs» := fun k x t v h => by
    rcases keyIs_shape h with ⟨i, u, rfl, e⟩ | ⟨y, u, rfl, e⟩
    · exact nomatch e
    · injection e with e1 _
      subst e1
      cases v <;> rfl

theorem mixKind_int (prog : Program) (w : World) (i : Int) (t : Tok) : (mixKind prog w).is (.inl i) (.int i t) = true := keyIs_int i t
theorem mixKind_str (prog : Program) (w : World) (x : Str) (t : Tok) : (mixKind prog w).is (.inr x) (.str x t) = true := keyIs_str x t
end L2

namespace L2
open PySem PySem.Spec PyProof.Rows

/-- a value, without the heap -/
inductive V where
  | non | bl (b : Bool) | int (i : Int) | str (x : Str) | byt (b : Array UInt8) | flt (b : UInt64) | ref (a : Addr) | ty (n : String)
  deriving DecidableEq

def RelV : V → Value → Prop
  | .non, u => u = Value.none
  | .bl b, u => u = Value.bool b
  | .int i, u => ∃ t, u = Value.int i t
  | .str x, u => ∃ t, u = Value.str x t
  | .byt b, u => ∃ t, u = Value.bytes b t
  | .flt b, u => ∃ t, u = Value.float b t
  | .ref a, u => u = Value.ref a
  | .ty n, u => u = Value.type n

abbrev Vals : List V → List Value → Prop := Paired RelV
theorem Vals.length {xs : List V} {us : List Value} (r : Vals xs us) : xs.length = us.length := Paired.length r
theorem Vals.get : ∀ {xs : List V} {us : List Value} {i : Nat} {x : V}, Vals xs us → xs[i]? = some x → ∃ u, us[i]? = some u ∧ RelV x u
  | _, _, _, _, .nil, e => by simp at e
  | _, _, 0, _, .cons r _, e => by simp at e; subst e; exact ⟨_, rfl, r⟩
  | _, _, i + 1, x, .cons _ t, e => by
    obtain ⟨u, h1, h2⟩ := Vals.get (i := i) (x := x) t (by simpa using e)
    exact ⟨u, by simpa using h1, h2⟩
theorem Vals.set {x : V} {u : Value} (r : RelV x u) : ∀ {xs : List V} {us : List Value} (i : Nat), Vals xs us → Vals (xs.set i x) (us.set i u)
  | _, _, _, .nil => .nil
  | _, _, 0, .cons _ t => .cons r t
  | _, _, i + 1, .cons q t => .cons q (Vals.set r i t)
theorem Vals.append : ∀ {xs ys : List V} {us ws : List Value}, Vals xs us → Vals ys ws → Vals (xs ++ ys) (us ++ ws)
  | _, _, _, _, .nil, s => s
  | _, _, _, _, .cons r t, s => .cons r (Vals.append t s)
theorem Vals.take : ∀ {xs : List V} {us : List Value} (n : Nat), Vals xs us → Vals (xs.take n) (us.take n)
  | _, _, 0, _ => .nil
  | _, _, _ + 1, .nil => .nil
  | _, _, n + 1, .cons r t => .cons r (Vals.take n t)
theorem Vals.drop : ∀ {xs : List V} {us : List Value} (n : Nat), Vals xs us → Vals (xs.drop n) (us.drop n)
  | _, _, 0, r => r
  | _, _, _ + 1, .nil => .nil
  | _, _, n + 1, .cons _ t => Vals.drop n t
def RelO : Option V → Option Value → Prop
  | some v, some u => RelV v u
  | none, none => True
  | _, _ => False
def KV {κ : Type} : List (κ × V) → List (κ × Value) → Prop := Paired fun (p : κ × V) (q : κ × Value) => p.1 = q.1 ∧ RelV p.2 q.2

/-- a key of a dict (00_mix): an int or a text -/
def kV : Key → V
  | .inl i => .int i
  | .inr x => .str x

/-- what stands at a tracked address -/
inductive HO where
  /-- a list -/
  | lst (xs : List V)
  /-- a tuple (never changes) -/
  | tup (xs : List V)
  /-- a dict whose keys are ints and texts; one whose keys are tuples of ints and texts (the empty one is both) -/
  | dK (kvs : List (Key × V)) | dT (kvs : List (List Key × V))
  /-- a set of ints: its members, its size -/
  | set (S : Int → Bool) (n : Nat)
  /-- an instance of the class at C, its dict at dx, its attributes -/
  | ins (C dx : Addr) (fs : List (Str × V))
  /-- the dict of the instance at x -/
  | own (x : Addr)
  /-- the dict of an exception -/
  | xd (fs : List (Str × V))
  /-- a bound method, f of x -/
  | met (f x : Addr)
  /-- a range object lo, lo + 1, .. below hi -/
  | rng (lo hi : Int)
  /-- a thing that is known to the object (the script; a dict while a loop walks it): read, never written while it is so -/
  | frz (o : Obj) (u : HO)
  /-- a code object's table -/
  | tbl (ps : Array Value)
  /-- any other thing, by what is true of its one object (a def of one's own: SetO a S n := HO.ext fun h => ..) -/
  | ext (φ : Heap → Prop)

abbrev Hp := Addr → Option HO
def upd (H : Hp) (a : Addr) (o : HO) : Hp := fun b => if b = a then some o else H b
theorem upd_same {H : Hp} {a : Addr} {o : HO} : upd H a o a = some o := by unfold upd; rw [if_pos rfl]
theorem upd_ne {H : Hp} {a b : Addr} {o : HO} (h : b ≠ a) : upd H a o b = H b := by unfold upd; rw [if_neg h]
/-- two objects of different content stand apart -/
theorem ne_of {H : Hp} {a b : Addr} {o u : HO} (h : H a = some o) (h' : H b = some u) (d : o ≠ u) : a ≠ b := by
  intro e; subst e; rw [h] at h'; exact d (Option.some.inj h')
theorem ne_of_none {H : Hp} {a b : Addr} {o : HO} (h : H a = some o) (h' : H b = none) : a ≠ b := by
  intro e; subst e; rw [h] at h'; cases h'

section
variable (P : Program) (w : World)
def ObjOk (H : Hp) (h : Heap) (a : Addr) : HO → Prop
  | .lst xs => xs.length ≤ sizeLine ∧ ∃ (its : List Value) (n : Nat), Vals xs its ∧ h.get? a = some { cls := .type "list", data := .seq its.toArray n }
  | .tup xs => xs.length ≤ sizeLine ∧ ∃ its : List Value, Vals xs its ∧ IsTup h a its.toArray
  | .dK kvs => kvs.length ≤ sizeLine ∧ (a == sysModules) = false ∧ ∃ vs, KV kvs vs ∧ h.DictOf (mixKind P w) a vs
  | .dT kvs => kvs.length ≤ sizeLine ∧ (a == sysModules) = false ∧ ∃ xs : List (List Key × Addr × Value),
      Paired (fun (p : List Key × V) (q : List Key × Addr × Value) => p.1 = q.1 ∧ H q.2.1 = some (.tup (p.1.map kV)) ∧ RelV p.2 q.2.2) kvs xs ∧
      ∃ o es ep, h.get? a = some o ∧ o.ExactDict ∧ o.data = .dict es ep ∧ es.toList = xs.map (entryOfKey (tupleKind (mixKind P w))) ∧ (xs.map (·.1)).Nodup
  | .set S n => h.SetOf (intKind P w) a S n
  | .ins C dx fs => H dx = some (.own a) ∧ fs.length ≤ 1000 ∧ dx ≠ a ∧ h.get? a = some (PySem.W.instObj C dx) ∧
      ∃ mA, h.Ns1 dx mA ∧ (∀ f, RelO (fs.lookup f) (mA f)) ∧ PySem.Within mA (fs.map (·.1))
  | .own _ => ∃ o, h.get? a = some o
  | .xd fs => ∃ mA, h.Ns1 a mA ∧ ∀ f, RelO (fs.lookup f) (mA f)
  | .rng lo hi => ∃ t u v, h.get? a = some { cls := .type "range", data := .fields #[.int lo t, .int hi u, .int 1 v] }
  | .frz o u => h.get? a = some o ∧ ObjOk H h a u
  | .tbl ps => h.get? a = some { cls := .none, data := .fields ps }
  | .met f x => h.get? a = some (PySem.W.methodObj (.ref f) (.ref x))
  | .ext φ => φ h ∧ (∃ o, h.get? a = some o) ∧ ∀ h1 h2 : Heap, φ h1 → (∀ o, h1.get? a = some o → h2.get? a = some o) → φ h2
/-- the abstract heap is held -/
def HOk (H : Hp) (h : Heap) : Prop := ∀ a o, H a = some o → ObjOk P w H h a o
end

section
variable {P : Program} {w : World} {H H' : Hp} {h h' : Heap} {a : Addr} {o : HO}
theorem ObjOk.lt (x : ObjOk P w H h a o) : a < h.objs.size := by
  cases o with
  | lst xs => obtain ⟨_, _, _, _, e⟩ := x; exact Heap.lt_size e
  | tup xs => obtain ⟨_, _, _, p⟩ := x; exact p.lt
  | dK kvs => obtain ⟨_, _, _, _, o, _, _, e, _⟩ := x; exact Heap.lt_size e
  | dT kvs => obtain ⟨_, _, _, _, o, _, _, e, _⟩ := x; exact Heap.lt_size e
  | set S n => obtain ⟨o, _, _, _, e, _⟩ := x; exact Heap.lt_size e
  | ins C dx fs => obtain ⟨_, _, _, e, _⟩ := x; exact Heap.lt_size e
  | own y => obtain ⟨_, e⟩ := x; exact Heap.lt_size e
  | xd fs => obtain ⟨_, ⟨_, _, _, e, _⟩, _⟩ := x; exact Heap.lt_size e
  | rng lo hi => obtain ⟨_, _, _, e⟩ := x; exact Heap.lt_size e
  | frz ob u => obtain ⟨e, _⟩ := x; exact Heap.lt_size e
  | tbl ps => exact Heap.lt_size (show h.get? a = some _ from x)
  | met f y => exact Heap.lt_size (show h.get? a = some _ from x)
  | ext φ => obtain ⟨_, ⟨_, e⟩, _⟩ := x; exact Heap.lt_size e
theorem Paired.mapP {α β : Type} {F G : α → β → Prop} : ∀ {l₁ : List α} {l₂ : List β}, Paired F l₁ l₂ → (∀ a b, F a b → G a b) → Paired G l₁ l₂
  | _, _, .nil, _ => .nil
  | _, _, .cons r t, f => .cons (f _ _ r) (Paired.mapP t f)
/-- what an object's description leans on: its own object, its own dict, the tuples -/
theorem ObjOk.stay (x : ObjOk P w H h a o) (k : ∀ b u, (b = a ∨ H b = some (.own a)) → h.get? b = some u → h'.get? b = some u)
    (ho : ∀ b, H b = some (.own a) → H' b = some (.own a)) (ht : ∀ b xs, H b = some (.tup xs) → H' b = some (.tup xs)) : ObjOk P w H' h' a o := by
  induction o with
  | lst xs => obtain ⟨z, its, n, r, e⟩ := x; exact ⟨z, its, n, r, k _ _ (.inl rfl) e⟩
  | tup xs => obtain ⟨z, its, r, ob, e, c⟩ := x; exact ⟨z, its, r, ob, k _ _ (.inl rfl) e, c⟩
  | dK kvs => obtain ⟨z, y, vs, r, ob, es, ep, e, c⟩ := x; exact ⟨z, y, vs, r, ob, es, ep, k _ _ (.inl rfl) e, c⟩
  | dT kvs =>
    obtain ⟨z, y, xs, r, ob, es, ep, e, c⟩ := x
    exact ⟨z, y, xs, Paired.mapP r fun p q z => ⟨z.1, ht _ _ z.2.1, z.2.2⟩, ob, es, ep, k _ _ (.inl rfl) e, c⟩
  | set S n => obtain ⟨ob, es, ep, t, e, c⟩ := x; exact ⟨ob, es, ep, t, k _ _ (.inl rfl) e, c⟩
  | ins C dx fs =>
    obtain ⟨d, z, ne, e, mA, ⟨od, es, ep, e2, c⟩, r⟩ := x
    exact ⟨ho _ d, z, ne, k _ _ (.inl rfl) e, mA, ⟨od, es, ep, k _ _ (.inr d) e2, c⟩, r⟩
  | own y => obtain ⟨ob, e⟩ := x; exact ⟨ob, k _ _ (.inl rfl) e⟩
  | xd fs => obtain ⟨mA, ⟨od, es, ep, e, c⟩, r⟩ := x; exact ⟨mA, ⟨od, es, ep, k _ _ (.inl rfl) e, c⟩, r⟩
  | rng lo hi => obtain ⟨t, u, v, e⟩ := x; exact ⟨t, u, v, k _ _ (.inl rfl) e⟩
  | frz ob u ih => obtain ⟨e, q⟩ := x; exact ⟨k _ _ (.inl rfl) e, ih q⟩
  | tbl ps =>
    have e : h.get? a = some { cls := .none, data := .fields ps } := x
    show h'.get? a = some { cls := .none, data := .fields ps }
    exact k a _ (.inl rfl) e
  | met f y =>
    have e : h.get? a = some (PySem.W.methodObj (.ref f) (.ref y)) := x
    show h'.get? a = some (PySem.W.methodObj (.ref f) (.ref y))
    exact k a _ (.inl rfl) e
  | ext φ => obtain ⟨p, ⟨o, e⟩, st⟩ := x; exact ⟨st _ _ p fun o q => k _ _ (.inl rfl) q, ⟨o, k _ _ (.inl rfl) e⟩, st⟩
theorem HOk.lt (x : HOk P w H h) (e : H a = some o) : a < h.objs.size := (x a o e).lt
theorem HOk.fresh (x : HOk P w H h) (e : h.objs.size ≤ a) : H a = none := by
  cases q : H a with
  | none => rfl
  | some u => exact absurd (Nat.lt_of_lt_of_le (x.lt q) e) (Nat.lt_irrefl _)
/-- every object of the heap is kept -/
theorem HOk.kept (x : HOk P w H h) (k : ∀ b u, h.get? b = some u → h'.get? b = some u) : HOk P w H h' := fun a o e =>
  (x a o e).stay (fun b u _ q => k b u q) (fun _ q => q) fun _ _ q => q
/-- a new object is laid and tracked -/
theorem HOk.laid (x : HOk P w H h) (k : ∀ b u, h.get? b = some u → h'.get? b = some u) (hp : h.objs.size ≤ a) (new : ObjOk P w (upd H a o) h' a o) : HOk P w (upd H a o) h' := fun b u e => by
  have hn := x.fresh hp
  by_cases hb : b = a
  · subst hb; rw [upd_same] at e; cases e; exact new
  · rw [upd_ne hb] at e
    exact (x b u e).stay (fun c v _ q => k c v q) (fun c q => by rw [upd_ne (ne_of_none q hn)]; exact q) fun c xs q => by rw [upd_ne (ne_of_none q hn)]; exact q
end

/-- what may be read as u: it is u, or a known u -/
def Rd (H : Hp) (a : Addr) (u : HO) : Prop := H a = some u ∨ ∃ o, H a = some (.frz o u)
theorem Rd.of {H : Hp} {a : Addr} {u : HO} (h : H a = some u) : Rd H a u := .inl h
theorem Rd.ok {P : Program} {w : World} {H : Hp} {h : Heap} {a : Addr} {u : HO} (r : Rd H a u) (x : HOk P w H h) : ObjOk P w H h a u := by
  rcases r with r | ⟨o, r⟩
  · exact x a u r
  · obtain ⟨_, q⟩ := x a _ r
    exact q
/-- what may be written -/
def Mut : Option HO → Prop
  | some (.lst _) => True
  | some (.dK _) => True
  | some (.dT _) => True
  | some (.set _ _) => True
  | some (.ins _ _ _) => True
  | some (.ext _) => True
  | _ => False
section
variable {P : Program} {w : World} {H : Hp} {h h' : Heap} {x e : Addr} {o' : HO}
/-- the object at e is changed: x itself, or the dict of the instance x -/
theorem HOk.write (ok : HOk P w H h) (mu : Mut (H x)) (he : e = x ∨ H e = some (.own x)) (k : ∀ b u, b ≠ e → h.get? b = some u → h'.get? b = some u) (heo : ∃ u, h'.get? e = some u)
    (new : ObjOk P w (upd H x o') h' x o') : HOk P w (upd H x o') h' := fun b u q => by
  have nown : ∀ c y, H c = some (.own y) → c ≠ x := fun c y r z => by subst z; rw [r] at mu; exact mu
  have ntup : ∀ c xs, H c = some (.tup xs) → c ≠ x := fun c xs r z => by subst z; rw [r] at mu; exact mu
  by_cases hb : b = x
  · subst hb; rw [upd_same] at q; cases q; exact new
  · rw [upd_ne hb] at q
    by_cases hbe : b = e
    · have q' : H b = some (.own x) := by
        rcases he with z | z
        · exact absurd (hbe.trans z) hb
        · rw [hbe]; exact z
      rw [q] at q'; cases q'
      obtain ⟨v, hv⟩ := heo
      exact ⟨v, by rw [hbe]; exact hv⟩
    · refine (ok b u q).stay (fun c v hc r => k c v ?_ r) (fun c r => by rw [upd_ne (nown c b r)]; exact r) fun c xs r => by rw [upd_ne (ntup c xs r)]; exact r
      rcases hc with rfl | hc
      · exact hbe
      · rintro rfl
        rcases he with z | z
        · exact nown c b hc z
        · rw [hc] at z; cases z; exact hb rfl
end

/-! ### kept unless tracked; of the frames at fs (the callers') the slots may change (an exception that passes writes there); of the records at ex (iterators) nothing is said -/
structure Un (fs ex : List Addr) (H H' : Hp) (h h' : Heap) : Prop where
  keep : ∀ b o, h.get? b = some o → H b = none → b ∉ fs → b ∉ ex → h'.get? b = some o
  slot : ∀ b o, h.get? b = some o → H b = none → b ∈ fs → b ∉ ex → ∃ sl, h'.get? b = some { o with slots := sl }
  free : ∀ b o, h.get? b = some o → H b = none → b ∉ ex → H' b = none
  there : ∀ b o, h.get? b = some o → b ∉ ex → ∃ o', h'.get? b = some o'
  tups : ∀ b xs, H b = some (.tup xs) → H' b = some (.tup xs)
  frzs : ∀ b o u, H b = some (.frz o u) → H' b = some (.frz o u)
  tbls : ∀ b ps, H b = some (.tbl ps) → ∃ more, H' b = some (.tbl (ps ++ more))
section
variable {fs fs' ex ex' : List Addr} {H H1 H2 : Hp} {h h1 h2 h' : Heap} {a x e : Addr} {o : HO}
theorem Un.any (u : Un fs ex H H1 h h1) {b : Addr} {ob : Obj} (q : h.get? b = some ob) (n : H b = none) (hx : b ∉ ex) : ∃ sl, h1.get? b = some { ob with slots := sl } := by
  by_cases hb : b ∈ fs
  · exact u.slot b ob q n hb hx
  · exact ⟨ob.slots, u.keep b ob q n hb hx⟩
theorem Un.trans (a : Un fs ex H H1 h h1) (b : Un fs ex H1 H2 h1 h2) : Un fs ex H H2 h h2 where
  keep := fun c ob q n hc hx => b.keep c ob (a.keep c ob q n hc hx) (a.free c ob q n hx) hc hx
  slot := fun c ob q n hc hx => by
    obtain ⟨sl, e1⟩ := a.slot c ob q n hc hx
    obtain ⟨sl', e2⟩ := b.slot c _ e1 (a.free c ob q n hx) hc hx
    exact ⟨sl', e2⟩
  free := fun c ob q n hx => by
    obtain ⟨o', e1⟩ := a.there c ob q hx
    exact b.free c o' e1 (a.free c ob q n hx) hx
  there := fun c ob q hx => by
    obtain ⟨o', e1⟩ := a.there c ob q hx
    exact b.there c o' e1 hx
  tups := fun c xs q => b.tups c xs (a.tups c xs q)
  frzs := fun c ob xs q => b.frzs c ob xs (a.frzs c ob xs q)
  tbls := fun c ps q => by
    obtain ⟨m1, e1⟩ := a.tbls c ps q
    obtain ⟨m2, e2⟩ := b.tbls c _ e1
    exact ⟨m1 ++ m2, by rw [e2, Array.append_assoc]⟩
theorem Un.kept (k : ∀ b u, h.get? b = some u → h'.get? b = some u) : Un fs ex H H h h' :=
  ⟨fun b ob q _ _ _ => k b ob q, fun b ob q _ _ _ => ⟨ob.slots, k b ob q⟩, fun _ _ _ n _ => n, fun b ob q _ => ⟨ob, k b ob q⟩, fun _ _ q => q, fun _ _ _ q => q, fun _ ps q => ⟨#[], by rw [q]; simp⟩⟩
theorem Un.refl : Un fs ex H H h h := Un.kept fun _ _ q => q
theorem Un.laid (k : ∀ b u, h.get? b = some u → h'.get? b = some u) (hp : h.objs.size ≤ a) (hn : H a = none) : Un fs ex H (upd H a o) h h' where
  keep := fun b u q _ _ _ => k b u q
  slot := fun b u q _ _ _ => ⟨u.slots, k b u q⟩
  free := fun b u q n _ => by rw [upd_ne (Nat.ne_of_lt (Nat.lt_of_lt_of_le (Heap.lt_size q) hp))]; exact n
  there := fun b u q _ => ⟨u, k b u q⟩
  tups := fun b xs q => by rw [upd_ne (ne_of_none q hn)]; exact q
  frzs := fun b u xs q => by rw [upd_ne (ne_of_none q hn)]; exact q
  tbls := fun b ps q => ⟨#[], by rw [upd_ne (ne_of_none q hn), q]; simp⟩
theorem Un.write (mu : Mut (H x)) (he : e = x ∨ H e = some (.own x)) (k : ∀ b u, b ≠ e → h.get? b = some u → h'.get? b = some u) (heo : ∃ u, h'.get? e = some u) : Un fs ex H (upd H x o) h h' := by
  have hx : ∀ b, H b = none → b ≠ x := fun b n z => by subst z; rw [n] at mu; exact mu
  have hb : ∀ b, H b = none → b ≠ e := fun b n z => by
    subst z
    rcases he with r | r
    · exact hx b n r
    · rw [n] at r; cases r
  have hm : ∀ b u, H b = some u → ¬ Mut (some u) → b ≠ x := fun b u q nm z => by subst z; rw [q] at mu; exact nm mu
  refine ⟨fun b u q n _ _ => k b u (hb b n) q, fun b u q n _ _ => ⟨u.slots, k b u (hb b n) q⟩, fun b u q n _ => by rw [upd_ne (hx b n)]; exact n, fun b u q _ => ?_,
    fun b xs q => by rw [upd_ne (hm b _ q fun z => z)]; exact q, fun b u xs q => by rw [upd_ne (hm b _ q fun z => z)]; exact q, fun b ps q => ⟨#[], by rw [upd_ne (hm b _ q fun z => z), q]; simp⟩⟩
  by_cases hbe : b = e
  · subst hbe; exact heo
  · exact ⟨u, k b u hbe q⟩
theorem Un.mono (u : Un fs ex H H1 h h1) (hs : ∀ b ∈ fs, b ∈ fs') (hx : ∀ b ∈ ex, b ∈ ex') : Un fs' ex' H H1 h h1 :=
  ⟨fun b ob q n hb he => u.keep b ob q n (fun z => hb (hs b z)) fun z => he (hx b z), fun _ _ q n _ he => u.any q n fun z => he (hx _ z), fun b ob q n he => u.free b ob q n fun z => he (hx b z), fun b ob q he => u.there b ob q fun z => he (hx b z), u.tups, u.frzs, u.tbls⟩
end

/-! ### the heap without what is tracked -/
def trk (h : Heap) (H : Hp) : List Addr := (List.range h.objs.size).filter fun a => (H a).isSome
def hidT (h : Heap) (H : Hp) : Heap := PySem.W.hideAll h (trk h H)
theorem hidT_size (h : Heap) (H : Hp) : (hidT h H).objs.size = h.objs.size := PySem.W.hideAll_size _ _
theorem hidT_get {h : Heap} {H : Hp} {b : Addr} {o : Obj} (e : h.get? b = some o) (n : H b = none) : (hidT h H).get? b = some o :=
  PySem.W.hideAll_get _ e fun hm => by
    have q : (H b).isSome = true := (List.mem_filter.mp hm).2
    rw [n] at q; simp at q
theorem of_hidT {h : Heap} {H : Hp} {b : Addr} {o : Obj} (e : (hidT h H).get? b = some o) : h.get? b = some o ∧ H b = none := by
  have e' : h.get? b = some o := PySem.W.of_hideAll (trk h H) e
  refine ⟨e', ?_⟩
  cases q : H b with
  | none => rfl
  | some x =>
    have hm : b ∈ trk h H := List.mem_filter.mpr ⟨List.mem_range.mpr (Heap.lt_size e'), by simp [q]⟩
    have z : (hidT h H).get? b = none := PySem.W.hideAll_none (trk h H) hm
    rw [z] at e; cases e

/-! ### OpenK's ledger, filled with every new object but one -/
def allNews (g h : Heap) (L : Addr) : List (Addr × Obj) := (List.range h.objs.size).filterMap fun a => if a = L ∨ (g.get? a).isSome = true then none else (h.get? a).map fun o => (a, o)
def rest (g h : Heap) (L d : Addr) : List (Addr × Obj) := (allNews g h L).filter fun p => decide (p.1 ≠ d)
end L2

namespace L2
open PySem PySem.Spec PyProof.Rows

/-- the module's facts, over the base: the heap at the law's entry without what is tracked there -/
structure Mod (K : PySem.W.Frag) (mg : Str → Option Value) (base : Heap) : Prop where
  kin : K.In base
  glob : base.Ns mainGlobals mg
  blt : ∃ mb, base.Ns builtinsNs mb ∧ ∀ x : Str, x ≠ "__name__" → mb x = bootBuiltins x
  nolimit : base.NoLimit

/-- the context: a def's body (or a comprehension's block) running. base: fixed through the whole law; s₀, H₀: the entry; outer: the frames whose slots others may change (a def's callers); stack: all frames that run;
   ex: iterators that were made ahead of the entry and are walked here (a comprehension's); fn: the names whose cells were made at the entry (a def: all; a comprehension's block: its own); calm: not within an except suite; pn: pins that every state bears; xe: what is wanted of an exception that leaves the code -/
structure Cx where
  prog : Program
  w : World
  K : PySem.W.Frag
  mg : Str → Option Value
  base : Heap
  A : Around
  N : List Str
  s_0 : Shared
  H_0 : Hp
  env : Env
  outer : List Env
  stack : List Env
  ex : List Addr
  fn : Str → Bool
  calm : Bool
  pn : List (Addr × Obj)
  xe : Value → Shared → Prop
/-- the callers' frames -/
def frs (l : List Env) : List Addr := l.filterMap (·.frame)
abbrev Cx.fs (X : Cx) : List Addr := frs X.outer

def Vis (sc : Scope) (x : Str) : Prop := sc.names.lookup x = some .local ∨ sc.names.lookup x = some .cell ∨ sc.names.lookup x = some .free
def Loc (sc : Scope) (x : Str) : Prop := sc.names.lookup x = some .local ∨ sc.names.lookup x = some .cell
def Look (env : Env) (h : Heap) (m : Str → Option Value) (x : Str) (u : Value) : Prop :=
  (env.kindOf x = some .local ∧ m x = some u) ∨ ((env.kindOf x = some .cell ∨ env.kindOf x = some .free) ∧ ∃ c, env.cells.lookup x = some c ∧ h.IsCell c (some u))

structure Cx.Ok (X : Cx) : Prop where
  mod : Mod X.K X.mg X.base
  kind : X.env.scope.kind = .function
  glob : X.env.globals = mainGlobals
  blt : X.env.builtins = builtinsNs
  above : X.s_0.heap.objs.size ≤ X.env.locals
  inj : ∀ x y c, X.env.cells.lookup x = some c → X.env.cells.lookup y = some c → x = y
  has : ∀ x, (X.env.kindOf x = some .cell ∨ X.env.kindOf x = some .free) → ∃ c, X.env.cells.lookup x = some c
  cab : ∀ x c, X.fn x = true → X.env.cells.lookup x = some c → X.s_0.heap.objs.size ≤ c
  hd : X.calm = true → X.A.handled = none
  frames : X.A.frames = some X.stack
  stk : X.stack = X.outer ∨ (X.stack = X.env :: X.outer ∧ X.env.frame = some X.env.locals)
  exf : ∀ b ∈ X.ex, b ≠ X.env.locals ∧ ∀ x c, X.env.cells.lookup x = some c → c ≠ b
  bs : ∀ b o, X.base.get? b = some o → X.s_0.heap.get? b = some o ∧ X.H_0 b = none
  bsz : X.base.objs.size ≤ X.s_0.heap.objs.size
  noex : ∀ b o, X.base.get? b = some o → b ∉ X.ex
  exfs : ∀ b ∈ X.ex, b ∉ X.fs
  funs : X.s_0.heap.FunFrames X.base X.outer
  frf : ∀ b ∈ X.fs, X.H_0 b = none

structure Inv (X : Cx) (pins : List (Addr × Obj)) (σ : List (Option V)) (H : Hp) (s : Shared) : Prop where
  ok : X.Ok
  os : s.os = X.s_0.os
  bare : AllBare s.gens
  base : Un X.fs X.ex X.H_0 H X.s_0.heap s.heap
  loc : ∃ m, s.heap.Ns X.env.locals m ∧ ∀ (i : Nat) (x : Str) (v : V), X.N[i]? = some x → σ[i]? = some (some v) → Vis X.env.scope x → ∃ u, RelV v u ∧ Look X.env s.heap m x u
  cell : ∀ x c, X.env.cells.lookup x = some c → ∃ v, s.heap.IsCell c v
  free : H X.env.locals = none
  freeC : ∀ x c, X.env.cells.lookup x = some c → H c = none
  pin : ∀ p ∈ X.pn ++ pins, s.heap.get? p.1 = some p.2 ∧ H p.1 = none ∧ p.1 ≠ X.env.locals ∧ p.1 ∉ X.fs ∧ ∀ v, p.2.data ≠ .cell v
  hok : HOk X.prog X.w H s.heap
  len : σ.length = X.N.length

section
variable {X : Cx} {pins : List (Addr × Obj)} {σ : List (Option V)} {H H' : Hp} {s : Shared} {h' : Heap}

theorem Cx.Ok.nofr (ok : X.Ok) {b : Addr} {o : Obj} (e : X.base.get? b = some o) : b ∉ X.fs := fun hb => by
  have := (ok.funs.mem hb).1
  rw [e] at this; cases this
theorem Inv.bs (I : Inv X pins σ H s) : ∀ b o, X.base.get? b = some o → s.heap.get? b = some o ∧ H b = none := fun b o e =>
  ⟨I.base.keep b o (I.ok.bs b o e).1 (I.ok.bs b o e).2 (I.ok.nofr e) (I.ok.noex b o e), I.base.free b o (I.ok.bs b o e).1 (I.ok.bs b o e).2 (I.ok.noex b o e)⟩
theorem Inv.bk (I : Inv X pins σ H s) : ∀ b o, X.base.get? b = some o → s.heap.get? b = some o := fun b o e => (I.bs b o e).1
theorem Inv.mod (I : Inv X pins σ H s) : Mod X.K X.mg X.base := I.ok.mod
theorem Inv.kIn (I : Inv X pins σ H s) : X.K.In s.heap := I.ok.mod.kin.keeps I.bk
theorem Inv.nolimit (I : Inv X pins σ H s) : s.heap.NoLimit := I.ok.mod.nolimit.keeps I.bk
theorem Inv.lt (I : Inv X pins σ H s) : X.env.locals < s.heap.objs.size := let ⟨_, hn, _⟩ := I.loc; hn.lt
theorem Inv.sz (I : Inv X pins σ H s) : X.s_0.heap.objs.size ≤ s.heap.objs.size := Nat.le_trans I.ok.above (Nat.le_of_lt I.lt)
theorem Inv.nofs (I : Inv X pins σ H s) {a : Addr} (h : s.heap.objs.size ≤ a) : a ∉ X.fs := fun hb => by
  obtain ⟨_, o, ho, _⟩ := I.ok.funs.mem hb
  exact absurd (Nat.lt_of_lt_of_le (Heap.lt_size ho) (Nat.le_trans I.sz h)) (Nat.lt_irrefl _)
theorem Inv.cne (I : Inv X pins σ H s) : ∀ x c, X.env.cells.lookup x = some c → c ≠ X.env.locals := fun x c e z => by
  obtain ⟨v, o, ho, hd⟩ := I.cell x c e
  obtain ⟨m, ⟨o', es, ep, ho', hd', _⟩, _⟩ := I.loc
  rw [z, ho'] at ho; cases ho; rw [hd'] at hd; cases hd
theorem Inv.funs (I : Inv X pins σ H s) : s.heap.FunFrames X.base X.outer := by
  have all : ∀ (l : List Env), (∀ b ∈ frs l, b ∈ X.fs) → X.s_0.heap.FunFrames X.base l → s.heap.FunFrames X.base l := by
    intro l
    induction l with
    | nil => intro _ _; trivial
    | cons env r ih =>
      intro hs hl
      obtain ⟨hk, ⟨L, o, hf, hn, ho, hd⟩, hr⟩ := hl
      have hL : L ∈ X.fs := hs L (by unfold frs; rw [List.filterMap_cons, hf]; exact List.mem_cons_self)
      obtain ⟨sl, e⟩ := I.base.slot L o ho (I.ok.frf L hL) hL fun z => I.ok.exfs L z hL
      exact ⟨hk, ⟨L, _, hf, hn, e, hd⟩, ih (fun b hb => hs b (by unfold frs; rw [List.filterMap_cons, hf]; exact List.mem_cons_of_mem _ hb)) hr⟩
  exact all X.outer (fun _ hb => hb) I.ok.funs

/-- the frames that run, for a call -/
theorem Inv.stack (I : Inv X pins σ H s) : s.heap.FunFrames X.base X.stack := by
  rcases I.ok.stk with e | ⟨e, hf⟩
  · rw [e]; exact I.funs
  · rw [e]
    obtain ⟨m, hn, _⟩ := I.loc
    refine .cons (by rw [I.ok.kind]; decide) hf hn ?_ I.funs
    exact Heap.get?_none_of_le (Nat.le_trans I.ok.bsz I.ok.above)
theorem Inv.stkSub (I : Inv X pins σ H s) : ∀ b ∈ frs X.stack, b ∈ X.env.locals :: X.fs := fun b hb => by
  rcases I.ok.stk with e | ⟨e, hf⟩
  · rw [e] at hb; exact List.mem_cons_of_mem _ hb
  · rw [e] at hb
    unfold frs at hb
    rw [List.filterMap_cons, hf] at hb
    exact hb
theorem Inv.stkFree (I : Inv X pins σ H s) : ∀ b ∈ frs X.stack, H b = none := fun b hb => by
  rcases List.mem_cons.mp (I.stkSub b hb) with e | hb
  · rw [e]; exact I.free
  · obtain ⟨_, o, ho, _⟩ := I.ok.funs.mem hb
    exact I.base.free b o ho (I.ok.frf b hb) fun z => I.ok.exfs b z hb

/-- THE STEP: the untracked objects but the frame and the records at ch are kept (the callers' frames up to slots), the frame's map is kept, the new abstract heap is held -/
theorem Inv.step {g' : Array GenState} {t' : Nat} {d' : Drawn} {ch : List Addr} (I : Inv X pins σ H s)
    (hch : ∀ b ∈ ch, (b ∈ X.ex ∨ X.s_0.heap.objs.size ≤ b) ∧ b ≠ X.env.locals ∧ (∀ x c, X.env.cells.lookup x = some c → c ≠ b) ∧ ∀ p ∈ X.pn ++ pins, p.1 ≠ b)
    (keep : ∀ b o, b ≠ X.env.locals → b ∉ X.fs → b ∉ ch → s.heap.get? b = some o → H b = none → h'.get? b = some o)
    (slot : ∀ b o, b ≠ X.env.locals → b ∈ X.fs → b ∉ ch → s.heap.get? b = some o → H b = none → ∃ sl, h'.get? b = some { o with slots := sl }) (free : ∀ b o, b ∉ ch → s.heap.get? b = some o → H b = none → H' b = none)
    (there : ∀ b o, b ∉ ch → s.heap.get? b = some o → ∃ o', h'.get? b = some o')
    (tups : ∀ b xs, H b = some (.tup xs) → H' b = some (.tup xs)) (frzs : ∀ b o u, H b = some (.frz o u) → H' b = some (.frz o u)) (tbls : ∀ b ps, H b = some (.tbl ps) → ∃ more, H' b = some (.tbl (ps ++ more)))
    (ns : ∀ m, s.heap.Ns X.env.locals m → h'.Ns X.env.locals m) (hok : HOk X.prog X.w H' h') (hg : AllBare g') :
    Inv X pins σ H' { s with heap := h', gens := g', drawn := d', toks := t' } := by
  have neL : ∀ b o, X.s_0.heap.get? b = some o → b ≠ X.env.locals := fun b o e => Nat.ne_of_lt (Nat.lt_of_lt_of_le (Heap.lt_size e) I.ok.above)
  have neC : ∀ b o, X.s_0.heap.get? b = some o → b ∉ X.ex → b ∉ ch := fun b o e hx hb => by
    rcases (hch b hb).1 with z | z
    · exact hx z
    · exact absurd (Nat.lt_of_lt_of_le (Heap.lt_size e) z) (Nat.lt_irrefl _)
  have cellK : ∀ x c, X.env.cells.lookup x = some c → ∀ v, s.heap.IsCell c v → h'.IsCell c v := fun x c e v ⟨o, ho, hd⟩ => by
    have nch : c ∉ ch := fun z => (hch c z).2.2.1 x c e rfl
    by_cases hc : c ∈ X.fs
    · obtain ⟨sl, q⟩ := slot c o (I.cne x c e) hc nch ho (I.freeC x c e)
      exact ⟨_, q, hd⟩
    · exact ⟨o, keep c o (I.cne x c e) hc nch ho (I.freeC x c e), hd⟩
  refine ⟨I.ok, I.os, hg, ⟨fun b o e n hb hx => ?_, fun b o e n hb hx => ?_, fun b o e n hx => ?_, fun b o e hx => ?_, fun b xs e => tups b xs (I.base.tups b xs e), fun b o xs e => frzs b o xs (I.base.frzs b o xs e), fun b ps e => ?_⟩, ?_, fun x c e => ?_, ?_, fun x c e => ?_, fun p hp => ?_, hok, I.len⟩
  · exact keep b o (neL b o e) hb (neC b o e hx) (I.base.keep b o e n hb hx) (I.base.free b o e n hx)
  · obtain ⟨sl, e1⟩ := I.base.slot b o e n hb hx
    obtain ⟨sl', e2⟩ := slot b _ (neL b o e) hb (neC b o e hx) e1 (I.base.free b o e n hx)
    exact ⟨sl', e2⟩
  · obtain ⟨o', e1⟩ := I.base.there b o e hx
    exact free b o' (neC b o e hx) e1 (I.base.free b o e n hx)
  · obtain ⟨o', e1⟩ := I.base.there b o e hx
    exact there b o' (neC b o e hx) e1
  · obtain ⟨m1, e1⟩ := I.base.tbls b ps e
    obtain ⟨m2, e2⟩ := tbls b _ e1
    exact ⟨m1 ++ m2, by rw [e2, Array.append_assoc]⟩
  · obtain ⟨m, hn, hl⟩ := I.loc
    refine ⟨m, ns m hn, fun i x v e1 e2 e3 => ?_⟩
    obtain ⟨u, r, l⟩ := hl i x v e1 e2 e3
    refine ⟨u, r, ?_⟩
    rcases l with l | ⟨k, c, e, z⟩
    · exact .inl l
    · exact .inr ⟨k, c, e, cellK x c e _ z⟩
  · obtain ⟨v, z⟩ := I.cell x c e
    exact ⟨v, cellK x c e v z⟩
  · obtain ⟨m, ⟨o, _, _, ho, _⟩, _⟩ := I.loc
    exact free _ o (fun z => (hch _ z).2.1 rfl) ho I.free
  · obtain ⟨v, o, ho, hd⟩ := I.cell x c e
    exact free c o (fun z => (hch c z).2.2.1 x c e rfl) ho (I.freeC x c e)
  · obtain ⟨e, n, ne, nf, d⟩ := I.pin p hp
    have nch : p.1 ∉ ch := fun z => (hch p.1 z).2.2.2 p hp rfl
    exact ⟨keep p.1 p.2 ne nf nch e n, free p.1 p.2 nch e n, ne, nf, d⟩
/-- .. where the frame's own object is kept too -/
theorem Inv.un {t' : Nat} (I : Inv X pins σ H s) (u : Un X.fs [] H H' s.heap h') (hok : HOk X.prog X.w H' h') : Inv X pins σ H' { s with heap := h', toks := t' } := by
  obtain ⟨m, ⟨o, es, ep, ho, r⟩, _⟩ := id I.loc
  obtain ⟨sl, hL⟩ := u.any ho I.free (by simp)
  exact I.step (g' := s.gens) (d' := s.drawn) (ch := []) (fun _ z => nomatch z) (fun b o _ hb _ e n => u.keep b o e n hb (by simp)) (fun b o _ hb _ e n => u.slot b o e n hb (by simp)) (fun b o _ e n => u.free b o e n (by simp)) (fun b o _ e => u.there b o e (by simp)) u.tups u.frzs u.tbls (fun m' hm => by
    obtain ⟨o', es', ep', ho', r'⟩ := hm
    rw [ho] at ho'; cases ho'
    exact ⟨_, es', ep', hL, r'⟩) hok I.bare
/-- behind a call (or a comprehension's block): the slots of this frame may have changed too, the records at ch may have turned -/
theorem Inv.call {g' : Array GenState} {t' : Nat} {d' : Drawn} {ch : List Addr} (I : Inv X pins σ H s) (u : Un (frs X.stack) ch H H' s.heap h') (hok : HOk X.prog X.w H' h') (hg : AllBare g')
    (hch : ∀ b ∈ ch, (b ∈ X.ex ∨ X.s_0.heap.objs.size ≤ b) ∧ b ≠ X.env.locals ∧ (∀ x c, X.env.cells.lookup x = some c → c ≠ b) ∧ ∀ p ∈ X.pn ++ pins, p.1 ≠ b) :
    Inv X pins σ H' { s with heap := h', gens := g', drawn := d', toks := t' } := by
  obtain ⟨m, ⟨o, es, ep, ho, r⟩, _⟩ := id I.loc
  obtain ⟨sl, hL⟩ := u.any ho I.free fun z => (hch _ z).2.1 rfl
  exact I.step (ch := ch) hch (fun b o hL hb hc e n => u.keep b o e n (fun z => (List.mem_cons.mp (I.stkSub b z)).elim hL hb) hc) (fun b o _ _ hc e n => u.any e n hc) (fun b o hc e n => u.free b o e n hc) (fun b o hc e => u.there b o e hc) u.tups u.frzs u.tbls (fun m' hm => by
    obtain ⟨o', es', ep', ho', r'⟩ := hm
    rw [ho] at ho'; cases ho'
    exact ⟨_, es', ep', hL, r'⟩) hok hg
/-- an untracked record of ours (an iterator) has turned -/
theorem Inv.turned {t' : Nat} {it : Addr} (I : Inv X pins σ H s) (k : ∀ b o, b ≠ it → s.heap.get? b = some o → h'.get? b = some o) (hn : H it = none) (hL : it ≠ X.env.locals)
    (h1 : it ∈ X.ex ∨ X.s_0.heap.objs.size ≤ it) (h2 : ∀ x c, X.env.cells.lookup x = some c → c ≠ it) (h3 : ∀ p ∈ X.pn ++ pins, p.1 ≠ it) : Inv X pins σ H { s with heap := h', toks := t' } := by
  have nit : ∀ b u, H b = some u → b ≠ it := fun b u e z => by rw [z, hn] at e; cases e
  refine I.step (g' := s.gens) (d' := s.drawn) (ch := [it]) (fun b hb => ?_) (fun b o _ _ hc e _ => k b o (fun z => hc (by simp [z])) e) (fun b o _ _ hc e _ => ⟨o.slots, k b o (fun z => hc (by simp [z])) e⟩) (fun _ _ _ _ n => n)
    (fun b o hc e => ⟨o, k b o (fun z => hc (by simp [z])) e⟩) (fun _ _ e => e) (fun _ _ _ e => e) (fun b ps e => ⟨#[], by rw [e]; simp⟩) (fun m hm => ?_) (fun b u e => ?_) I.bare
  · have e : b = it := by simpa using hb
    subst e
    exact ⟨h1, hL, h2, h3⟩
  · obtain ⟨o, es, ep, ho, r⟩ := hm
    exact ⟨o, es, ep, k _ o (Ne.symm hL) ho, r⟩
  · refine (I.hok b u e).stay (fun c v hc q => k c v ?_ q) (fun _ q => q) fun _ _ q => q
    rcases hc with z | z
    · rw [z]; exact nit b u e
    · exact nit c _ z
theorem Inv.tok (I : Inv X pins σ H s) (t : Nat) : Inv X pins σ H { s with toks := t } := I.un (h' := s.heap) (t' := t) Un.refl I.hok
/-- all objects kept -/
theorem Inv.kept {t' : Nat} (I : Inv X pins σ H s) (k : ∀ b u, s.heap.get? b = some u → h'.get? b = some u) : Inv X pins σ H { s with heap := h', toks := t' } := I.un (Un.kept k) (I.hok.kept k)
/-- a new object laid and tracked -/
theorem Inv.laid {a : Addr} {o : HO} {t' : Nat} (I : Inv X pins σ H s) (k : ∀ b u, s.heap.get? b = some u → h'.get? b = some u) (hp : s.heap.objs.size ≤ a) (new : ObjOk X.prog X.w (upd H a o) h' a o) :
    Inv X pins σ (upd H a o) { s with heap := h', toks := t' } := I.un (Un.laid k hp (I.hok.fresh hp)) (I.hok.laid k hp new)
/-- an object written -/
theorem Inv.write {x e : Addr} {o : HO} {t' : Nat} (I : Inv X pins σ H s) (mu : Mut (H x)) (he : e = x ∨ H e = some (.own x)) (k : ∀ b u, b ≠ e → s.heap.get? b = some u → h'.get? b = some u) (heo : ∃ u, h'.get? e = some u)
    (new : ObjOk X.prog X.w (upd H x o) h' x o) : Inv X pins σ (upd H x o) { s with heap := h', toks := t' } := I.un (Un.write mu he k heo) (I.hok.write mu he k heo new)
/-- forgetting slots, pins -/
theorem Inv.weak {σ' : List (Option V)} (I : Inv X pins σ H s) (hl : σ'.length = σ.length) (w : ∀ (i : Nat) v, σ'[i]? = some (some v) → σ[i]? = some (some v)) : Inv X pins σ' H s :=
  ⟨I.ok, I.os, I.bare, I.base, let ⟨m, hn, hl'⟩ := I.loc; ⟨m, hn, fun i x v e1 e2 e3 => hl' i x v e1 (w i v e2) e3⟩, I.cell, I.free, I.freeC, I.pin, I.hok, hl.trans I.len⟩
theorem Inv.pins_of {pins' : List (Addr × Obj)} (I : Inv X pins σ H s) (h : ∀ p ∈ pins', s.heap.get? p.1 = some p.2 ∧ H p.1 = none ∧ p.1 ≠ X.env.locals ∧ p.1 ∉ X.fs ∧ ∀ v, p.2.data ≠ .cell v) : Inv X pins' σ H s :=
  ⟨I.ok, I.os, I.bare, I.base, I.loc, I.cell, I.free, I.freeC, fun p hp => (List.mem_append.mp hp).elim (fun z => I.pin p (List.mem_append_left _ z)) (h p), I.hok, I.len⟩

theorem nodup_ix {N : List Str} (hN : N.Nodup) {i j : Nat} {x : Str} (a : N[i]? = some x) (b : N[j]? = some x) : i = j := by
  obtain ⟨h1, e1⟩ := List.getElem?_eq_some_iff.mp a
  obtain ⟨h2, e2⟩ := List.getElem?_eq_some_iff.mp b
  exact (List.getElem_inj hN).mp (e1.trans e2.symm)

/-- a name is stored; what changed -/
theorem store_ok2 {M : Model} {A : Around} {E : Value → Shared → Prop} {i : Nat} {x : Str} {v : V} {u : Value} {Q : Unit → Shared → Prop} (I : Inv X pins σ H s) (hN : X.N.Nodup) (hi : X.N[i]? = some x) (hx : Loc X.env.scope x) (r : RelV v u)
    (h : ∀ s', Inv X pins (σ.set i (some v)) H s' → (∃ a, Heap.SameBut a s.heap s'.heap ∧ (a = X.env.locals ∨ X.env.cells.lookup x = some a)) → Q () s') (hf : X.fn x = true ∨ X.env.scope.names.lookup x = some .local := by first | exact .inl rfl | exact .inr rfl | assumption) : wpAny M A (storeName X.env x u) Q E s := by
  obtain ⟨m, hn, hl⟩ := id I.loc
  have hcls : (X.env.scope.kind == .class || (X.env.scope.kind == .module && X.env.locals != X.env.globals)) = false := by rw [I.ok.kind]; rfl
  have hiσ : i < σ.length := by rw [I.len]; exact (List.getElem?_eq_some_iff.mp hi).1
  have cne := I.cne
  have tracked : ∀ {a : Addr} {h' : Heap}, (∃ o, s.heap.get? a = some o ∧ H a = none) → Heap.SameBut a s.heap h' → HOk X.prog X.w H h' := fun {a h'} ha hs b ob e => by
    obtain ⟨_, _, hfree⟩ := ha
    refine (I.hok b ob e).stay (fun c w' hc q => (hs.2 c ?_).trans q) (fun _ q => q) fun _ _ q => q
    rintro rfl
    rcases hc with rfl | hc
    · rw [hfree] at e; cases e
    · rw [hfree] at hc; cases hc
  rcases hx with hk | hk
  · refine wpAny_storeName_local hk hn (fun h' hn' hs => ?_) hcls
    obtain ⟨oL, _, _, hoL, _⟩ := id hn
    refine h _ ⟨I.ok, I.os, I.bare, ⟨fun b o e n hb hx => ?_, fun b o e n hb hx => ?_, I.base.free, fun b o e hx => ?_, I.base.tups, I.base.frzs, I.base.tbls⟩, ⟨_, hn', fun j y v' e1 e2 e3 => ?_⟩, fun y c e => ?_, I.free, I.freeC, fun p hp => ?_, tracked ⟨oL, hoL, I.free⟩ hs, by simpa using I.len⟩ ⟨_, hs, .inl rfl⟩
    · exact (hs.2 b (Nat.ne_of_lt (Nat.lt_of_lt_of_le (Heap.lt_size e) I.ok.above))).trans (I.base.keep b o e n hb hx)
    · obtain ⟨sl, e1⟩ := I.base.slot b o e n hb hx
      exact ⟨sl, (hs.2 b (Nat.ne_of_lt (Nat.lt_of_lt_of_le (Heap.lt_size e) I.ok.above))).trans e1⟩
    · obtain ⟨o', e1⟩ := I.base.there b o e hx
      exact ⟨o', (hs.2 b (Nat.ne_of_lt (Nat.lt_of_lt_of_le (Heap.lt_size e) I.ok.above))).trans e1⟩
    · by_cases hj : j = i
      · subst hj
        rw [hi] at e1; cases e1
        rw [List.getElem?_set_self hiσ] at e2
        cases e2
        exact ⟨u, r, .inl ⟨hk, by simp⟩⟩
      · rw [List.getElem?_set_ne (Ne.symm hj)] at e2
        obtain ⟨u', r', q⟩ := hl j y v' e1 e2 e3
        refine ⟨u', r', ?_⟩
        rcases q with ⟨k, e⟩ | ⟨k, c, e, z⟩
        · refine .inl ⟨k, ?_⟩
          have : y ≠ x := fun e => hj (nodup_ix hN e1 (e ▸ hi))
          simp [this, e]
        · exact .inr ⟨k, c, e, z.sameBut hs (cne y c e)⟩
    · obtain ⟨w', z⟩ := I.cell y c e
      exact ⟨w', z.sameBut hs (cne y c e)⟩
    · obtain ⟨e, n, ne, nf, d⟩ := I.pin p hp
      exact ⟨(hs.2 p.1 ne).trans e, n, ne, nf, d⟩
  · have hfn : X.fn x = true := by
      rcases hf with z | z
      · exact z
      · rw [z] at hk; cases hk
    obtain ⟨c, hc⟩ := I.ok.has x (.inl hk)
    obtain ⟨w', z⟩ := I.cell x c hc
    refine wpAny_storeName_cell I.ok.kind hk hc z (fun h' hc' hs => ?_)
    obtain ⟨oc, hoc, hocd⟩ := id z
    refine h { s with heap := h' } ⟨I.ok, I.os, I.bare, ⟨fun b o e n hb hx => ?_, fun b o e n hb hx => ?_, I.base.free, fun b o e hx => ?_, I.base.tups, I.base.frzs, I.base.tbls⟩, ⟨m, hn.sameBut hs (Ne.symm (cne x c hc)), fun j y v' e1 e2 e3 => ?_⟩, fun y c' e => ?_, I.free, I.freeC, fun p hp => ?_, tracked ⟨oc, hoc, I.freeC x c hc⟩ hs, by simpa using I.len⟩ ⟨c, hs, .inr hc⟩
    · exact (hs.2 b (Nat.ne_of_lt (Nat.lt_of_lt_of_le (Heap.lt_size e) (I.ok.cab x c hfn hc)))).trans (I.base.keep b o e n hb hx)
    · obtain ⟨sl, e1⟩ := I.base.slot b o e n hb hx
      exact ⟨sl, (hs.2 b (Nat.ne_of_lt (Nat.lt_of_lt_of_le (Heap.lt_size e) (I.ok.cab x c hfn hc)))).trans e1⟩
    · obtain ⟨o', e1⟩ := I.base.there b o e hx
      exact ⟨o', (hs.2 b (Nat.ne_of_lt (Nat.lt_of_lt_of_le (Heap.lt_size e) (I.ok.cab x c hfn hc)))).trans e1⟩
    · by_cases hj : j = i
      · subst hj
        rw [hi] at e1; cases e1
        rw [List.getElem?_set_self hiσ] at e2
        cases e2
        exact ⟨u, r, .inr ⟨.inl hk, c, hc, hc'⟩⟩
      · rw [List.getElem?_set_ne (Ne.symm hj)] at e2
        obtain ⟨u', r', q⟩ := hl j y v' e1 e2 e3
        refine ⟨u', r', ?_⟩
        rcases q with q | ⟨k, c', e, z'⟩
        · exact .inl q
        · refine .inr ⟨k, c', e, z'.sameBut hs ?_⟩
          rintro rfl
          exact hj (nodup_ix hN e1 (I.ok.inj _ _ _ e hc ▸ hi))
    · by_cases hcc : c' = c
      · subst hcc; exact ⟨_, hc'⟩
      · obtain ⟨w2, z2⟩ := I.cell y c' e
        exact ⟨w2, z2.sameBut hs hcc⟩
    · obtain ⟨e, n, ne, nf, d⟩ := I.pin p hp
      refine ⟨(hs.2 p.1 ?_).trans e, n, ne, nf, d⟩
      intro q
      rw [q, hoc] at e
      have q' : oc = p.2 := Option.some.inj e
      exact d w' (by rw [← q']; exact hocd)
theorem store_ok {M : Model} {A : Around} {E : Value → Shared → Prop} {i : Nat} {x : Str} {v : V} {u : Value} {Q : Unit → Shared → Prop} (I : Inv X pins σ H s) (hN : X.N.Nodup) (hi : X.N[i]? = some x) (hx : Loc X.env.scope x) (r : RelV v u)
    (h : ∀ s', Inv X pins (σ.set i (some v)) H s' → Q () s') (hf : X.fn x = true ∨ X.env.scope.names.lookup x = some .local := by first | exact .inl rfl | exact .inr rfl | assumption) : wpAny M A (storeName X.env x u) Q E s :=
  store_ok2 I hN hi hx r (fun s' I' _ => h s' I') hf
/-- behind a call or a block, the state as it is -/
theorem Inv.call' {s' : Shared} {ch : List Addr} (I : Inv X pins σ H s) (ho : s'.os = s.os) (u : Un (frs X.stack) ch H H' s.heap s'.heap) (hok : HOk X.prog X.w H' s'.heap) (hg : AllBare s'.gens)
    (hch : ∀ b ∈ ch, (b ∈ X.ex ∨ X.s_0.heap.objs.size ≤ b) ∧ b ≠ X.env.locals ∧ (∀ x c, X.env.cells.lookup x = some c → c ≠ b) ∧ ∀ p ∈ X.pn ++ pins, p.1 ≠ b) : Inv X pins σ H' s' := by
  obtain ⟨h', g', d', t', o'⟩ := s'
  have e : o' = s.os := ho
  subst e
  exact I.call (g' := g') (t' := t') (d' := d') u hok hg hch
end

/-! ### the judgements -/
/-- an exception: its class, its own dict's address (where it has one), the abstract heap behind it -/
abbrev XK := Value → Option Addr → Hp → Prop
abbrev St := List (Option V)
abbrev VK := V → Hp → Prop
/-- an expression's reading; a test's; an argument list's -/
abbrev TE := St → Hp → VK → Prop
abbrev TT := St → Hp → (Bool → Hp → Prop) → Prop
abbrev TA := St → Hp → (List V → Hp → Prop) → Prop
/-- what is wanted behind a statement -/
structure Ends where
  nx : St → Hp → Prop
  rt : VK
  bk : St → Hp → Prop := fun _ _ => False
  ct : St → Hp → Prop := fun _ _ => False
abbrev TS := Ends → St → Hp → Prop

def EP (X : Cx) (pins : List (Addr × Obj)) (σ : St) (Q : VK) (u : Value) (s' : Shared) : Prop := ∃ v H', Inv X pins σ H' s' ∧ RelV v u ∧ Q v H'
def TP (X : Cx) (pins : List (Addr × Obj)) (σ : St) (Q : Bool → Hp → Prop) (b : Bool) (s' : Shared) : Prop := ∃ H', Inv X pins σ H' s' ∧ Q b H'
def AP (X : Cx) (pins : List (Addr × Obj)) (σ : St) (Q : List V → Hp → Prop) (us : List Value) (s' : Shared) : Prop := ∃ vs H', Inv X pins σ H' s' ∧ Vals vs us ∧ Q vs H'
def SP (X : Cx) (pins : List (Addr × Obj)) (D : Ends) (f : Flow) (s' : Shared) : Prop :=
  match f with
  | .next => ∃ σ' H', Inv X pins σ' H' s' ∧ D.nx σ' H'
  | .brk => ∃ σ' H', Inv X pins σ' H' s' ∧ D.bk σ' H'
  | .cont => ∃ σ' H', Inv X pins σ' H' s' ∧ D.ct σ' H'
  | .ret u => ∃ v σ' H', Inv X pins σ' H' s' ∧ RelV v u ∧ D.rt v H'

def PE (X : Cx) (e : Expr) (t : TE) : Prop :=
  ∀ (pins : List (Addr × Obj)) (s : Shared) (σ : St) (H : Hp) (Q : VK), Inv X pins σ H s → t σ H Q → wpAny (model X.prog X.w) X.A (eval e X.env) (EP X pins σ Q) X.xe s
def PT (X : Cx) (e : Expr) (t : TT) : Prop :=
  ∀ (pins : List (Addr × Obj)) (s : Shared) (σ : St) (H : Hp) (Q : Bool → Hp → Prop), Inv X pins σ H s → t σ H Q → wpAny (model X.prog X.w) X.A (isTrue e X.env (eval e X.env)) (TP X pins σ Q) X.xe s
/-- a test whatever its 'whole' is (and, or) -/
def PW (X : Cx) (e : Expr) (t : TT) : Prop :=
  ∀ (whole : Sem Value) (pins : List (Addr × Obj)) (s : Shared) (σ : St) (H : Hp) (Q : Bool → Hp → Prop), Inv X pins σ H s → t σ H Q → wpAny (model X.prog X.w) X.A (isTrue e X.env whole) (TP X pins σ Q) X.xe s
theorem PW.pt {X : Cx} {e : Expr} {t : TT} (h : PW X e t) : PT X e t := h _
/-- an argument list (no star), from the left -/
def PA (X : Cx) (es : List Expr) (t : TA) : Prop :=
  ∀ (pos : Pos) (pins : List (Addr × Obj)) (s : Shared) (σ : St) (H : Hp) (Q : List V → Hp → Prop), Inv X pins σ H s → t σ H Q → wpAny (model X.prog X.w) X.A (spliced (backTo pos (starEach es X.env))) (AP X pins σ Q) X.xe s
def PS (X : Cx) (st : Stmt) (t : TS) : Prop :=
  ∀ (pins : List (Addr × Obj)) (s : Shared) (σ : St) (H : Hp) (D : Ends), Inv X pins σ H s → t D σ H → wpAny (model X.prog X.w) X.A (exec st X.env) (SP X pins D) X.xe s
def PSs (X : Cx) (st : List Stmt) (t : TS) : Prop :=
  ∀ (pins : List (Addr × Obj)) (s : Shared) (σ : St) (H : Hp) (D : Ends), Inv X pins σ H s → t D σ H → wpAny (model X.prog X.w) X.A (execs st X.env) (SP X pins D) X.xe s
/-- weaken the end -/
theorem thn {α : Type} {t : Sem α} {Q Q' : α → Shared → Prop} {M : Model} {A : Around} {E : Value → Shared → Prop} {s : Shared} (h : wpAny M A t Q E s) (hQ : ∀ a s, Q a s → Q' a s) : wpAny M A t Q' E s := wpAny_mono h hQ fun _ _ x => x
end L2

namespace L2
open PySem PySem.Spec PyProof.Rows
section
variable {X : Cx}

/-! ### names and constants -/
def tVar (i : Nat) : TE := fun σ H Q => ∃ v, σ[i]? = some (some v) ∧ Q v H
def tC (v : V) : TE := fun _ H Q => Q v H
theorem pe_var {i : Nat} {x : Str} {pos : Pos} (hN : X.N[i]? = some x) (hv : Vis X.env.scope x) (hd : (x == ("__debug__" : Str)) = false := by decide) (hcd : (x == ("__classdict__" : Str)) = false := by decide) : PE X (.Name x pos) (tVar i) := by
  intro pins s σ H Q I h
  obtain ⟨v, e, h⟩ := h
  obtain ⟨m, hn, hl⟩ := I.loc
  obtain ⟨u, r, l⟩ := hl i x v hN e hv
  have fin : EP X pins σ Q u s := ⟨v, H, I, r, h⟩
  rcases l with ⟨hk, hm⟩ | ⟨hk, c, hc, hcell⟩
  · exact wpAny_Name (wpAny_loadName_local I.ok.kind hk hn hm fin) hd
  · rcases hk with hk | hk
    · exact wpAny_Name (wpAny_loadName_cell I.ok.kind hk hc hcell fin) hd
    · exact wpAny_Name (wpAny_loadName_free I.ok.kind hk hc hcell fin hcd) hd
theorem pe_int {i j pos} : PE X (.Constant (.int i) j pos) (tC (.int i)) := fun _ _ _ H _ I h => wpAny_Constant_int ⟨.int i, H, I.tok _, ⟨_, rfl⟩, h⟩
theorem pe_bl {b j pos} : PE X (.Constant (.bool b) j pos) (tC (.bl b)) := fun _ _ _ H _ I h => Constant_bool ⟨.bl b, H, I, rfl, h⟩
/-- a global name of the def -/
def Gl (X : Cx) (x : Str) : Prop := X.env.kindOf x = some .globalImplicit
theorem ld_glob {E : Value → Shared → Prop} {pins : List (Addr × Obj)} {s : Shared} {σ : St} {H : Hp} {x : Str} {u : Value} {pos : Pos} {Q : Value → Shared → Prop} (I : Inv X pins σ H s) (hg : Gl X x) (hm : X.mg x = some u) (h : Q u s)
    (hd : (x == ("__debug__" : Str)) = false := by decide) : wpAny (model X.prog X.w) X.A (eval (.Name x pos) X.env) Q E s :=
  Calls.Name_function_global I.ok.kind hg (Calls.loadGlobal_global (by rw [I.ok.glob]; exact I.mod.glob.keeps I.bk) hm h) hd
theorem ld_blt {E : Value → Shared → Prop} {pins : List (Addr × Obj)} {s : Shared} {σ : St} {H : Hp} {x : Str} {u : Value} {pos : Pos} {Q : Value → Shared → Prop} (I : Inv X pins σ H s) (hg : Gl X x) (hm : X.mg x = none) (hv : bootBuiltins x = some u) (h : Q u s)
    (hn : x ≠ "__name__" := by decide) (hd : (x == ("__debug__" : Str)) = false := by decide) : wpAny (model X.prog X.w) X.A (eval (.Name x pos) X.env) Q E s := by
  obtain ⟨mb, h1, h2⟩ := I.mod.blt
  exact Calls.Name_function_global I.ok.kind hg (Calls.loadGlobal_builtin (by rw [I.ok.glob]; exact I.mod.glob.keeps I.bk) hm (by rw [I.ok.blt]; exact h1.keeps I.bk) ((h2 x hn).trans hv) h) hd
/-- a module's constant, a class, a function, as a value -/
theorem pe_glob {x : Str} {v : V} {u : Value} {pos : Pos} (hg : Gl X x) (hm : X.mg x = some u) (r : RelV v u) (hd : (x == ("__debug__" : Str)) = false := by decide) : PE X (.Name x pos) (tC v) :=
  fun _ _ _ H _ I h => ld_glob I hg hm ⟨v, H, I, r, h⟩ hd
/-! ### arithmetic -/
variable {a b : Expr} {ta tb : TE} {pos : Pos}
/-! ### comparisons -/
def PC (X : Cx) (op : CmpOp) (a b : Expr) (t : TE) : Prop :=
  ∀ (pins : List (Addr × Obj)) (s : Shared) (σ : St) (H : Hp) (Q : VK), Inv X pins σ H s → t σ H Q →
    wpAny (model X.prog X.w) X.A (eval a X.env) (fun v s₁ => wpAny (model X.prog X.w) X.A (eval b X.env) (fun u s₂ => wpAny (model X.prog X.w) X.A (compareOp op v u) (EP X pins σ Q) X.xe s₂) X.xe s₁) X.xe s
theorem nobehind (b : Expr) {op : CmpOp} (h : op ≠ .In) (h2 : op ≠ .NotIn) : behindInMarks op b = false := by
  have e1 : (op == CmpOp.In) = false := by cases op <;> first | rfl | exact absurd rfl h
  have e2 : (op == CmpOp.NotIn) = false := by cases op <;> first | rfl | exact absurd rfl h2
  cases b <;> simp [behindInMarks, e1, e2]
/-- a comparison as a value, as a test -/
def tB (t : TE) : TT := fun σ H Q => t σ H fun x H1 => ∃ c, x = .bl c ∧ Q c H1
theorem pt_cmp {op : CmpOp} {t : TE} (h : PC X op a b t) (h1 : behindInMarks op b = false := by first | exact nobehind _ (by decide) (by decide) | rfl) : PT X (.Compare a [op] [b] pos) (tB t) := by
  intro pins s σ H Q I hw
  refine wpAny_isTrue_Compare1 (thn (h pins s σ H _ I hw) fun v s1 h1 => thn h1 fun u s2 h2 => thn h2 fun c s3 ⟨x, H1, I1, r1, q1⟩ => ?_) h1
  obtain ⟨d, rfl, q⟩ := q1
  cases r1
  exact wpAny_truthy_bool ⟨H1, I1, q⟩
/-- an expression whose value is a bool, as a test -/
theorem pt_val {e : Expr} {t : TE} (h : PE X e t) (he : ∀ whole, isTrue e X.env whole = (do let v ← whole; standAt e.pos; holding [v] (truthy v)) := by intro _; rfl) : PT X e (tB t) := by
  intro pins s σ H Q I hw
  refine isTrue_plain (thn (h pins s σ H _ I hw) fun v s1 ⟨x, H1, I1, r1, q1⟩ => ?_) (he _)
  obtain ⟨d, rfl, q⟩ := q1
  cases r1
  exact wpAny_truthy_bool ⟨H1, I1, q⟩

/-! ### and, or, not -/
variable {tA tB' : TT} {rest : List Expr}
def tOr (t u : TT) : TT := fun σ H Q => t σ H fun c H1 => if c = true then Q true H1 else u σ H1 Q
def tNot (t : TT) : TT := fun σ H Q => t σ H fun c H1 => Q (!c) H1
theorem pw_or1 (ha : PT X a tA) : PW X (.BoolOp .Or [a] pos) tA := by
  intro wh pins s σ H Q I h
  refine isTrue_or (thn (ha pins s σ H Q I h) fun c s1 e => ?_)
  cases c with
  | false => exact isTrue_or_nil e
  | true => exact e
theorem pw_or (ha : PT X a tA) (hb : PW X (.BoolOp .Or (b :: rest) pos) tB') : PW X (.BoolOp .Or (a :: b :: rest) pos) (tOr tA tB') := by
  intro wh pins s σ H Q I h
  refine isTrue_or (thn (ha pins s σ H _ I h) fun c s1 ⟨H1, I1, q1⟩ => ?_)
  cases c with
  | true => exact ⟨H1, I1, q1⟩
  | false => exact hb wh pins s1 σ H1 Q I1 q1
theorem pt_not (ha : PT X a tA) : PT X (.UnaryOp .Not a pos) (tNot tA) := by
  intro pins s σ H Q I h
  exact isTrue_not (ha pins s σ H (fun c H1 => Q (!c) H1) I h)
/-- .. as values (bools) -/
def tAndV (ta tb : TE) : TE := fun σ H Q => ta σ H fun x H1 => ∃ c, x = .bl c ∧ if c = true then tb σ H1 Q else Q (.bl false) H1
def tOrV (ta tb : TE) : TE := fun σ H Q => ta σ H fun x H1 => ∃ c, x = .bl c ∧ if c = true then Q (.bl true) H1 else tb σ H1 Q
theorem pe_one {op} {t : TE} (h : PE X a t) : PE X (.BoolOp op [a] pos) t := fun pins s σ H Q I hw => BoolOp_one (h pins s σ H Q I hw)
theorem pe_and (ha : PE X a ta) (hb : PE X (.BoolOp .And (b :: rest) pos) tb) : PE X (.BoolOp .And (a :: b :: rest) pos) (tAndV ta tb) := by
  intro pins s σ H Q I h
  refine BoolOp_and (thn (ha pins s σ H _ I h) fun v s1 ⟨x, H1, I1, r1, q1⟩ => ?_)
  obtain ⟨c, rfl, q1⟩ := q1
  cases r1
  refine wpAny_truthy_bool ?_
  cases c with
  | true => exact hb pins s1 σ H1 Q I1 q1
  | false => exact ⟨.bl false, H1, I1, rfl, q1⟩
theorem pe_or (ha : PE X a ta) (hb : PE X (.BoolOp .Or (b :: rest) pos) tb) : PE X (.BoolOp .Or (a :: b :: rest) pos) (tOrV ta tb) := by
  intro pins s σ H Q I h
  refine BoolOp_or (thn (ha pins s σ H _ I h) fun v s1 ⟨x, H1, I1, r1, q1⟩ => ?_)
  obtain ⟨c, rfl, q1⟩ := q1
  cases r1
  refine wpAny_truthy_bool ?_
  cases c with
  | false => exact hb pins s1 σ H1 Q I1 q1
  | true => exact ⟨.bl true, H1, I1, rfl, q1⟩
/-- a if t else b -/
def tIf (t : TT) (ta tb : TE) : TE := fun σ H Q => t σ H fun c H1 => if c = true then ta σ H1 Q else tb σ H1 Q
theorem pe_ifExp {c : Expr} (hc : PT X c tA) (ha : PE X a ta) (hb : PE X b tb) : PE X (.IfExp c a b pos) (tIf tA ta tb) := by
  intro pins s σ H Q I h
  refine wpAny_IfExp (thn (hc pins s σ H _ I h) fun d s1 ⟨H1, I1, q1⟩ => ?_)
  cases d with
  | true => exact ha pins s1 σ H1 Q I1 q1
  | false => exact hb pins s1 σ H1 Q I1 q1
end
end L2

namespace L2
open PySem PySem.Spec PyProof.Rows

/-! ### a list, a tuple that is read: tracked, frozen, or an object of the module -/
def SqL (K : PySem.W.Frag) (H : Hp) (a : Addr) (xs : List V) : Prop :=
  Rd H a (.lst xs) ∨
    ∃ (o : Obj) (its : Array Value) (n : Nat), K.lookup a = some o ∧ o.cls = .type "list" ∧ o.dict = none ∧ o.data = .seq its n ∧ its.size ≤ sizeLine ∧ Vals xs its.toList
def SqT (K : PySem.W.Frag) (H : Hp) (a : Addr) (xs : List V) : Prop :=
  Rd H a (.tup xs) ∨
    ∃ (o : Obj) (its : Array Value) (n : Nat), K.lookup a = some o ∧ o.cls = .type "tuple" ∧ o.data = .seq its n ∧ its.size ≤ sizeLine ∧ Vals xs its.toList
def absV : Value → Option V
  | .none => some .non
  | .bool b => some (.bl b)
  | .int i _ => some (.int i)
  | .str x _ => some (.str x)
  | .bytes b _ => some (.byt b)
  | .float b _ => some (.flt b)
  | .ref a => some (.ref a)
  | .type n => some (.ty n)
  | _ => none
theorem RelV.abs {x : V} {u : Value} (r : RelV x u) : absV u = some x := by
  cases x with
  | non => cases r; rfl
  | bl _ => cases r; rfl
  | int _ => obtain ⟨t, rfl⟩ := r; rfl
  | str _ => obtain ⟨t, rfl⟩ := r; rfl
  | byt _ => obtain ⟨t, rfl⟩ := r; rfl
  | flt _ => obtain ⟨t, rfl⟩ := r; rfl
  | ref _ => cases r; rfl
  | ty _ => cases r; rfl
theorem RelV.inj {x y : V} {u : Value} (r : RelV x u) (q : RelV y u) : x = y := Option.some.inj (r.abs.symm.trans q.abs)
theorem Vals.inj : ∀ {xs ys : List V} {us : List Value}, Vals xs us → Vals ys us → xs = ys
  | _, _, _, .nil, .nil => rfl
  | _, _, _, .cons r t, .cons r' t' => by rw [r.inj r', Vals.inj t t']
section
variable {X : Cx} {pins : List (Addr × Obj)} {σ : St} {H : Hp} {s : Shared} {a : Addr} {xs ys : List V}
theorem SqL.of {K : PySem.W.Frag} (h : H a = some (.lst xs)) : SqL K H a xs := .inl (.inl h)
theorem SqT.of {K : PySem.W.Frag} (h : H a = some (.tup xs)) : SqT K H a xs := .inl (.inl h)
theorem Inv.list (I : Inv X pins σ H s) (h : SqL X.K H a xs) : ∃ its : List Value, Vals xs its ∧ PlainL s.heap a its.toArray ∧ xs.length ≤ sizeLine := by
  rcases h with h | ⟨o, its, n, hk, hc, hd, hs, hz, r⟩
  · obtain ⟨z, its, n, r, e⟩ := h.ok I.hok
    exact ⟨its, r, ⟨_, n, e, rfl, rfl, rfl⟩, z⟩
  · refine ⟨its.toList, r, ⟨o, n, I.kIn a o hk, hc, hd, by simpa using hs⟩, ?_⟩
    have e := r.length
    simp only [Array.length_toList] at e
    omega
theorem Inv.tuple (I : Inv X pins σ H s) (h : SqT X.K H a xs) : ∃ its : List Value, Vals xs its ∧ IsTup s.heap a its.toArray ∧ xs.length ≤ sizeLine := by
  rcases h with h | ⟨o, its, n, hk, hc, hs, hz, r⟩
  · obtain ⟨z, its, r, p⟩ := h.ok I.hok
    exact ⟨its, r, p, z⟩
  · refine ⟨its.toList, r, ⟨o, I.kIn a o hk, hc, n, by simpa using hs⟩, ?_⟩
    have e := r.length
    simp only [Array.length_toList] at e
    omega
theorem Inv.list_inj (I : Inv X pins σ H s) (h : SqL X.K H a xs) (h' : SqL X.K H a ys) : xs = ys := by
  obtain ⟨its, r, ⟨o, n, e, _, _, d⟩, _⟩ := I.list h
  obtain ⟨its', r', ⟨o', n', e', _, _, d'⟩, _⟩ := I.list h'
  rw [e] at e'; cases e'
  rw [d] at d'
  injection d' with d1 _
  have : its = its' := by simpa using congrArg Array.toList d1
  subst this
  exact r.inj r'
theorem Inv.tuple_inj (I : Inv X pins σ H s) (h : SqT X.K H a xs) (h' : SqT X.K H a ys) : xs = ys := by
  obtain ⟨its, r, ⟨o, e, _, n, d⟩, _⟩ := I.tuple h
  obtain ⟨its', r', ⟨o', e', _, n', d'⟩, _⟩ := I.tuple h'
  rw [e] at e'; cases e'
  rw [d] at d'
  injection d' with d1 _
  have : its = its' := by simpa using congrArg Array.toList d1
  subst this
  exact r.inj r'
end

/-! ### another wish about exceptions -/
abbrev Cx.wish (X : Cx) (E : Value → Shared → Prop) : Cx := { X with xe := E }
/-- no exception leaves -/
abbrev Cx.nox (X : Cx) : Cx := X.wish fun _ _ => False
theorem Cx.Ok.wish {X : Cx} (ok : X.Ok) (E : Value → Shared → Prop) : (X.wish E).Ok :=
  ⟨ok.mod, ok.kind, ok.glob, ok.blt, ok.above, ok.inj, ok.has, ok.cab, ok.hd, ok.frames, ok.stk, ok.exf, ok.bs, ok.bsz, ok.noex, ok.exfs, ok.funs, ok.frf⟩
theorem Cx.Ok.unwish {X : Cx} {E : Value → Shared → Prop} (ok : (X.wish E).Ok) : X.Ok :=
  ⟨ok.mod, ok.kind, ok.glob, ok.blt, ok.above, ok.inj, ok.has, ok.cab, ok.hd, ok.frames, ok.stk, ok.exf, ok.bs, ok.bsz, ok.noex, ok.exfs, ok.funs, ok.frf⟩
section
variable {X : Cx} {pins : List (Addr × Obj)} {σ : St} {H : Hp} {s : Shared} {E : Value → Shared → Prop}
theorem Inv.wish (I : Inv X pins σ H s) (E : Value → Shared → Prop) : Inv (X.wish E) pins σ H s := ⟨I.ok.wish E, I.os, I.bare, I.base, I.loc, I.cell, I.free, I.freeC, I.pin, I.hok, I.len⟩
theorem Inv.unwish (I : Inv (X.wish E) pins σ H s) : Inv X pins σ H s := ⟨I.ok.unwish, I.os, I.bare, I.base, I.loc, I.cell, I.free, I.freeC, I.pin, I.hok, I.len⟩
theorem SP.unwish {D : Ends} {f : Flow} {s' : Shared} (h : SP (X.wish E) pins D f s') : SP X pins D f s' := by
  cases f with
  | next => obtain ⟨σ', H', I, q⟩ := h; exact ⟨σ', H', I.unwish, q⟩
  | brk => obtain ⟨σ', H', I, q⟩ := h; exact ⟨σ', H', I.unwish, q⟩
  | cont => obtain ⟨σ', H', I, q⟩ := h; exact ⟨σ', H', I.unwish, q⟩
  | ret u => obtain ⟨v, σ', H', I, r, q⟩ := h; exact ⟨v, σ', H', I.unwish, r, q⟩
theorem PE.nox {e : Expr} {t : TE} (h : PE X.nox e t) : PE X e t := fun pins s σ H Q I hw =>
  wpAny_mono (h pins s σ H Q (I.wish _) hw) (fun _ _ ⟨v, H', I', r, q⟩ => ⟨v, H', I'.unwish, r, q⟩) fun _ _ z => False.elim z
theorem PT.nox {e : Expr} {t : TT} (h : PT X.nox e t) : PT X e t := fun pins s σ H Q I hw =>
  wpAny_mono (h pins s σ H Q (I.wish _) hw) (fun _ _ ⟨H', I', q⟩ => ⟨H', I'.unwish, q⟩) fun _ _ z => False.elim z
theorem PSs.nox {st : List Stmt} {t : TS} (h : PSs X.nox st t) : PSs X st t := fun pins s σ H D I hw =>
  wpAny_mono (h pins s σ H D (I.wish _) hw) (fun _ _ q => q.unwish) fun _ _ z => False.elim z
end

/-! ### blocks and small statements -/
section
variable {X : Cx} {st : Stmt} {rest : List Stmt} {t u : TS} {e : Expr} {te : TE} {pos : Pos}
def tNext : TS := fun D σ H => D.nx σ H
def tSeq (t u : TS) : TS := fun D σ H => t { D with nx := u D } σ H
theorem pss_nil : PSs X [] tNext := fun _ _ σ H _ I h => wpAny_execs_nil ⟨σ, H, I, h⟩
theorem pss_cons (h1 : PS X st t) (h2 : PSs X rest u) : PSs X (st :: rest) (tSeq t u) := by
  intro pins s σ H D I h
  refine wpAny_execs_cons (thn (h1 pins s σ H { D with nx := u D } I h) fun f s1 q => ?_)
  cases f with
  | next =>
    obtain ⟨σ', H', I', q⟩ := q
    exact h2 pins s1 σ' H' D I' q
  | ret v => exact q
  | brk => exact q
  | cont => exact q
theorem pss_one (h1 : PS X st t) : PSs X [st] t := by
  intro pins s σ H D I h
  refine wpAny_execs_cons (thn (h1 pins s σ H D I h) fun f s1 q => ?_)
  cases f with
  | next => exact wpAny_execs_nil q
  | ret v => exact q
  | brk => exact q
  | cont => exact q
/-- in a def's body nothing is shown -/
theorem Inv.quiet {pins : List (Addr × Obj)} {σ : St} {H : Hp} {s : Shared} (I : Inv X pins σ H s) : interactive X.env = false := by simp [interactive, I.ok.kind]
/-- an expression whose value is dropped -/
def tDrop (te : TE) : TS := fun D σ H => te σ H fun _ H1 => D.nx σ H1
theorem ps_expr (he : PE X e te) (hs : swapsWith e none pos.line X.env = pure false := by rfl) : PS X (.Expr e pos) (tDrop te) := by
  intro pins s σ H D I h
  exact wpAny_Expr_any (thn (he pins s σ H _ I h) fun v s1 ⟨x, H1, I1, r1, q1⟩ => ⟨σ, H1, I1, q1⟩) I.quiet hs
def tRet (te : TE) : TS := fun D σ H => te σ H D.rt
theorem ps_ret (he : PE X e te) : PS X (.Return (some e) pos) (tRet te) := by
  intro pins s σ H D I h
  exact wpAny_Return_some (thn (he pins s σ H _ I h) fun v s1 ⟨x, H1, I1, r1, q1⟩ => ⟨x, σ, H1, I1, r1, q1⟩)
def tIfS (c : TT) (t u : TS) : TS := fun D σ H => c σ H fun b H1 => if b = true then t D σ H1 else u D σ H1
theorem ps_if {c : Expr} {a b : List Stmt} {tc : TT} (hc : PT X c tc) (ha : PSs X a t) (hb : PSs X b u) : PS X (.If c a b pos) (tIfS tc t u) := by
  intro pins s σ H D I h
  refine wpAny_If (thn (hc pins s σ H _ I h) fun d s1 ⟨H1, I1, q1⟩ => ?_)
  cases d with
  | true => exact ha pins s1 σ H1 D I1 q1
  | false => exact hb pins s1 σ H1 D I1 q1
end

/-! ### targets -/
abbrev TG := V → St → Hp → (St → Hp → Prop) → Prop
abbrev TGs := List V → St → Hp → (St → Hp → Prop) → Prop
def PG (X : Cx) (target : Expr) (t : TG) : Prop :=
  ∀ (pins : List (Addr × Obj)) (s : Shared) (σ : St) (H : Hp) (v : V) (u : Value) (Q : St → Hp → Prop), Inv X pins σ H s → RelV v u → t v σ H Q →
    wpAny (model X.prog X.w) X.A (assign target X.env u) (fun _ s' => ∃ σ' H', Inv X pins σ' H' s' ∧ Q σ' H') X.xe s
/-- several targets, one after another -/
def PGs (X : Cx) (ts : List Expr) (t : TGs) : Prop :=
  ∀ (pins : List (Addr × Obj)) (s : Shared) (σ : St) (H : Hp) (vs : List V) (us : List Value) (Q : St → Hp → Prop), Inv X pins σ H s → Vals vs us → t vs σ H Q →
    wpAny (model X.prog X.w) X.A (assignInOrder ((assignEach ts X.env).map (·.2)) us) (fun _ s' => ∃ σ' H', Inv X pins σ' H' s' ∧ Q σ' H') X.xe s
section
variable {X : Cx} {pos : Pos}
def gName (i : Nat) : TG := fun v σ H Q => Q (σ.set i (some v)) H
theorem pg_name {i : Nat} {x : Str} (hN : X.N.Nodup) (hi : X.N[i]? = some x) (hx : Loc X.env.scope x) (hf : X.fn x = true ∨ X.env.scope.names.lookup x = some .local := by first | exact .inl rfl | exact .inr rfl | assumption) : PG X (.Name x pos) (gName i) := by
  intro pins s σ H v u Q I r h
  exact wpAny_assign_Name (store_ok I hN hi hx r (fun s' I' => ⟨_, H, I', h⟩) hf)
def gNil : TGs := fun vs σ H Q => vs = [] ∧ Q σ H
def gCons (t : TG) (u : TGs) : TGs := fun vs σ H Q => ∃ v r, vs = v :: r ∧ t v σ H fun σ' H' => u r σ' H' Q
theorem pgs_nil : PGs X [] gNil := by
  intro pins s σ H vs us Q I r h
  obtain ⟨e, h⟩ := h
  subst e
  cases r
  exact assignInOrder_nil ⟨σ, H, I, h⟩
theorem pgs_cons {e : Expr} {es : List Expr} {t : TG} {u : TGs} (h1 : PG X e t) (h2 : PGs X es u)
    (hs : (assignEach (e :: es) X.env).map (·.2) = assign e X.env :: (assignEach es X.env).map (·.2) := by rfl) : PGs X (e :: es) (gCons t u) := by
  intro pins s σ H vs us Q I r h
  obtain ⟨v, vr, e1, h⟩ := h
  subst e1
  cases r with
  | cons r rr =>
    rw [hs]
    refine assignInOrder_cons (thn (h1 pins s σ H _ _ _ I r h) fun _ s1 ⟨σ1, H1, I1, q1⟩ => ?_)
    exact h2 pins s1 σ1 H1 _ _ Q I1 rr q1
/-- (a, b, ..) = a tuple of that length -/
def gTup (K : PySem.W.Frag) (n : Nat) (t : TGs) : TG := fun v σ H Q => ∃ a xs, v = .ref a ∧ SqT K H a xs ∧ xs.length = n ∧ t xs σ H Q
theorem pg_tup {es : List Expr} {k : Nat} {t : TGs} {n : Nat} (hc : X.calm = true) (h : PGs X es t)
    (hn : (assignEach es X.env).length = n := by rfl) (hst : (assignEach es X.env).findIdx? (·.1) = none := by rfl) : PG X (.Tuple es k pos) (gTup X.K n t) := by
  intro pins s σ H v u Q I r hw
  obtain ⟨a, xs, e1, hq, hl, hw⟩ := hw
  subst e1
  cases r
  obtain ⟨its, rv, ht, hz⟩ := I.tuple hq
  refine assign_Tuple_tuple (I.ok.hd hc) ht (by simp [hn, ← hl, rv.length]) hst fun h' hx => ?_
  have I1 : Inv X pins σ H { s with heap := h' } := I.kept (t' := s.toks) fun b o e => hx b o (Nat.ne_of_lt (Heap.lt_size e)) e
  exact h pins _ σ H xs _ Q I1 (by simpa using rv) hw
/-- target = value -/
def tAsg (te : TE) (g : TG) : TS := fun D σ H => te σ H fun x H1 => g x σ H1 D.nx
/-- name = value -/
theorem ps_set {i : Nat} {x : Str} {e : Expr} {te : TE} {pos' : Pos} (hN : X.N.Nodup) (hi : X.N[i]? = some x) (hx : Loc X.env.scope x) (he : PE X e te) (hs : swapsWith e (some (.Name x pos')) pos.line X.env = pure false := by rfl) (hf : X.fn x = true ∨ X.env.scope.names.lookup x = some .local := by first | exact .inl rfl | exact .inr rfl | assumption) :
    PS X (.Assign [.Name x pos'] e pos) (tAsg te (gName i)) := by
  intro pins s σ H D I h
  refine wpAny_Assign_Name (thn (he pins s σ H _ I h) fun v s1 ⟨y, H1, I1, r1, q1⟩ => ?_) hs
  exact store_ok I1 hN hi hx r1 (fun s2 I2 => ⟨_, H1, I2, q1⟩) hf
end

/-! ### while -/
section
variable {X : Cx} {pos : Pos}
/-- the invariant W with its measure -/
def tWhile (c : TT) (tb : TS) : TS := fun D σ H => ∃ W : Nat → St → Hp → Prop, (∃ m, W m σ H) ∧ ∀ m σ H, W m σ H →
  c σ H fun b H1 => if b = true then ∃ N : St → Hp → Prop, (∀ σ' H', N σ' H' → ∃ m', m' < m ∧ W m' σ' H') ∧ tb { D with nx := N, ct := N, bk := D.nx } σ H1 else D.nx σ H1
theorem ps_while {c : Expr} {body : List Stmt} {tc : TT} {tb : TS} (hp : PassesOwn (model X.prog X.w) X.A X.env X.xe) (hc : PT X c tc) (hb : PSs X body tb) : PS X (.While c body [] pos) (tWhile tc tb) := by
  intro pins s σ H D I h
  obtain ⟨W, ⟨m0, w0⟩, turn⟩ := h
  refine wpAny_While (codeAny_whileLoop (fun n s' => ∃ σ' H', Inv X pins σ' H' s' ∧ W n σ' H') ?_ m0 ⟨σ, H, I, w0⟩)
  rintro n s1 ⟨σ1, H1, I1, w1⟩
  refine wpAny_passesOwn hp (thn (hc pins s1 σ1 H1 _ I1 (turn n σ1 H1 w1)) fun b s2 ⟨H2, I2, q2⟩ => ?_)
  cases b with
  | true =>
    obtain ⟨N, hN, q2⟩ := q2
    rw [if_pos rfl]
    refine wpAny_passesOwn hp (thn (hb pins s2 σ1 H2 _ I2 q2) fun f s3 q3 => ?_)
    cases f with
    | next =>
      obtain ⟨σ3, H3, I3, n3⟩ := q3
      obtain ⟨m', hm, w3⟩ := hN σ3 H3 n3
      exact ⟨m', hm, σ3, H3, I3, w3⟩
    | cont =>
      obtain ⟨σ3, H3, I3, n3⟩ := q3
      obtain ⟨m', hm, w3⟩ := hN σ3 H3 n3
      exact ⟨m', hm, σ3, H3, I3, w3⟩
    | brk => exact q3
    | ret v => exact q3
  | false =>
    rw [if_neg Bool.false_ne_true]
    exact wpAny_execs_nil ⟨σ1, H2, I2, q2⟩
end

/-! ### what a loop or a comprehension walks -/
/-- at turn i: it yields x (the heap may grow), or it stops -/
structure It where
  go : Nat → Hp → Prop
  yld : Nat → Hp → V → Hp → Prop
  stop : Nat → Hp → Prop
/-- the iterator's own objects may turn: they are not the frame's, not pinned, younger than the entry (or a comprehension's own) -/
def FpOk (X : Cx) (pins : List (Addr × Obj)) (H : Hp) (b : Addr) : Prop :=
  H b = none ∧ b ≠ X.env.locals ∧ b ∉ X.fs ∧ (b ∈ X.ex ∨ X.s_0.heap.objs.size ≤ b) ∧ (∀ x c, X.env.cells.lookup x = some c → c ≠ b) ∧ ∀ p ∈ X.pn ++ pins, p.1 ≠ b
theorem Inv.fpOk {X : Cx} {pins : List (Addr × Obj)} {σ : St} {H H' : Hp} {s : Shared} {b : Addr} (I : Inv X pins σ H s) (hb : s.heap.objs.size ≤ b) (hn : H' b = none) : FpOk X pins H' b := by
  refine ⟨hn, Nat.ne_of_gt (Nat.lt_of_lt_of_le I.lt hb), I.nofs hb, .inr (Nat.le_trans I.sz hb), fun x c e z => ?_, fun p hp z => ?_⟩
  · obtain ⟨v, q⟩ := I.cell x c e
    exact absurd (Nat.lt_of_lt_of_le q.lt (by rw [z]; exact hb)) (Nat.lt_irrefl _)
  · exact absurd (Nat.lt_of_lt_of_le (Heap.lt_size (I.pin p hp).1) (by rw [z]; exact hb)) (Nat.lt_irrefl _)
structure Turn (P : Program) (w : World) (K : PySem.W.Frag) (tg : Expr) (J : It) (fp : List Addr) (it : Addr) (tn : Nat → Heap → Prop) : Prop where
  mem : it ∈ fp
  obj : ∀ i h, tn i h → ∀ b ∈ fp, ∃ o, h.get? b = some o ∧ ∀ v, o.data ≠ .cell v
  keep : ∀ i h h', tn i h → (∀ b ∈ fp, ∀ o, h.get? b = some o → h'.get? b = some o) → tn i h'
  item : ∀ (X : Cx), X.prog = P → X.w = w → X.K = K → X.calm = true → ∀ (i : Nat) (pins : List (Addr × Obj)) (s : Shared) (σ : St) (H : Hp) (E : Value → Shared → Prop), Inv X pins σ H s → (∀ b ∈ fp, FpOk X pins H b) → tn i s.heap → J.go i H →
    wpAny (model P w) X.A (pyNext (.ref it)) (fun r s1 => ∃ u, r = some u ∧
      wpAny (model P w) X.A (letOwnedTupleGo tg (.ref it) u) (fun _ s2 => ∃ x H', Inv X pins σ H' s2 ∧ RelV x u ∧ J.yld i H x H' ∧ tn (i + 1) s2.heap ∧ ∀ b ∈ fp, H' b = none) E s1) E s
  done : ∀ (X : Cx), X.prog = P → X.w = w → X.K = K → X.calm = true → ∀ (i : Nat) (pins : List (Addr × Obj)) (s : Shared) (σ : St) (H : Hp) (E : Value → Shared → Prop), Inv X pins σ H s → (∀ b ∈ fp, FpOk X pins H b) → tn i s.heap → J.stop i H →
    wpAny (model P w) X.A (pyNext (.ref it)) (fun r s1 => r = none ∧ Inv X pins σ H s1) E s
  self : ∀ (A : Around) (i : Nat) (s : Shared) (Q : Value → Shared → Prop) (E : Value → Shared → Prop), tn i s.heap → Q (.ref it) s → wpAny (model P w) A (pyIter (.ref it)) Q E s
abbrev TI := St → Hp → (It → Hp → Prop) → Prop
/-- an iterator has come -/
def PIE (X : Cx) (pins : List (Addr × Obj)) (σ : St) (tg : Expr) (R : It → Hp → Prop) (itv : Value) (s2 : Shared) : Prop :=
  ∃ (it : Addr) (fp : List Addr) (tn : Nat → Heap → Prop) (J : It) (H' : Hp), itv = .ref it ∧ Inv X pins σ H' s2 ∧ Turn X.prog X.w X.K tg J fp it tn ∧ tn 0 s2.heap ∧ (∀ b ∈ fp, FpOk X pins H' b) ∧ R J H'
def PI (X : Cx) (tg iter : Expr) (wi : TI) : Prop :=
  ∀ (pins : List (Addr × Obj)) (s : Shared) (σ : St) (H : Hp) (R : It → Hp → Prop), Inv X pins σ H s → wi σ H R →
    wpAny (model X.prog X.w) X.A (eval iter X.env) (fun v s1 => wpAny (model X.prog X.w) X.A (pyIter v) (PIE X pins σ tg R) X.xe s1) X.xe s

/-- the step ahead of the store is nothing for an iterator that keeps no tuple -/
theorem go_of {M : Model} {A : Around} {E : Value → Shared → Prop} {s : Shared} {tg : Expr} {it : Addr} {u : Value} {o : Obj} {n : String} {vs : Array Value} {Q : Unit → Shared → Prop} (ho : s.heap.get? it = some o) (hc : o.cls = .type n) (hd : o.data = .fields vs)
    (hn : ["enumerate", "zip", "dict_itemiterator", "dict_reverseitemiterator", "odict_iterator", "itertools.zip_longest", "itertools.pairwise"].contains n = false) (hQ : Q () s) : wpAny M A (letOwnedTupleGo tg (.ref it) u) Q E s := by
  unfold letOwnedTupleGo
  cases tg <;> first
    | exact wpAny_pure hQ
    | (cases u <;> first
        | exact wpAny_pure hQ
        | (refine wpAny_bind (wpAny_load ho ?_)
           rw [hc, hd]
           show wpAny M A (if (["enumerate", "zip", "dict_itemiterator", "dict_reverseitemiterator", "odict_iterator", "itertools.zip_longest", "itertools.pairwise"].contains n && vs[0]? == some (rawInt _)) = true then _ else _) Q E s
           rw [if_neg (by intro h; rw [hn, Bool.false_and] at h; cases h)]
           exact wpAny_pure hQ))

/-- the list at a, as it stands at each turn (a loop may append to it) -/
def Itl (K : PySem.W.Frag) (a : Addr) : It :=
  ⟨fun i H => ∃ xs x, SqL K H a xs ∧ xs[i]? = some x, fun i H x H' => H' = H ∧ ∀ xs, SqL K H a xs → xs[i]? = some x, fun i H => ∃ xs, SqL K H a xs ∧ xs.length ≤ i⟩
def Itt (K : PySem.W.Frag) (a : Addr) : It :=
  ⟨fun i H => ∃ xs x, SqT K H a xs ∧ xs[i]? = some x, fun i H x H' => H' = H ∧ ∀ xs, SqT K H a xs → xs[i]? = some x, fun i H => ∃ xs, SqT K H a xs ∧ xs.length ≤ i⟩
/-- lo, lo + 1, .. (n of them) -/
def Itr (lo : Int) (n : Nat) : It := ⟨fun i _ => i < n, fun i H x H' => H' = H ∧ x = .int (lo + i), fun i _ => n ≤ i⟩
theorem turn_list {P : Program} {w : World} {K : PySem.W.Frag} {tg : Expr} (a it : Addr) : Turn P w K tg (Itl K a) [it] it (fun i h => h.IsListIter it a i) where
  mem := by simp
  obj := fun i h st b hb => by
    have e : b = it := by simpa using hb
    subst e
    obtain ⟨o, e, c, d⟩ := st
    exact ⟨o, e, fun v z => by rw [d] at z; cases z⟩
  keep := fun i h h' st k => st.at fun o e => k it (by simp) o e
  item := by
    intro X hP hw hK hc i pins s σ H E I hf st hg
    subst hP hw hK
    obtain ⟨xs, x, hq, hx⟩ := hg
    obtain ⟨its, rv, p, hz⟩ := I.list hq
    obtain ⟨u, hu, ru⟩ := rv.get hx
    obtain ⟨f0, f1, f2, f3, f4, f5⟩ := hf it (by simp)
    refine wpAny_pyNext_list_item st p.isList (x := u) (by simpa using hu) fun h' st' sb => ?_
    have I1 : Inv X pins σ H { s with heap := h' } := I.turned (t' := s.toks) (fun b o hb e => (sb.2 b hb).trans e) f0 f1 f3 f4 f5
    obtain ⟨o, e, c, d⟩ := id st'
    exact ⟨u, rfl, go_of (s := { s with heap := h' }) e c d (by decide) ⟨x, H, I1, ru, ⟨rfl, fun ys hy => by rw [I.list_inj hy hq]; exact hx⟩, st', fun b hb => (hf b hb).1⟩⟩
  done := by
    intro X hP hw hK hc i pins s σ H E I hf st hg
    subst hP hw hK
    obtain ⟨xs, hq, hx⟩ := hg
    obtain ⟨its, rv, p, hz⟩ := I.list hq
    obtain ⟨f0, f1, f2, f3, f4, f5⟩ := hf it (by simp)
    have hl := rv.length
    exact wpAny_pyNext_list_end (I.ok.hd hc) st p.isList (by simp; omega) fun h' eb => ⟨rfl, I.turned (t' := s.toks) (fun b o hb e => eb b o hb e) f0 f1 f3 f4 f5⟩
  self := fun _ _ _ _ _ st h => wpAny_pyIter_listiter st h
theorem turn_tuple {P : Program} {w : World} {K : PySem.W.Frag} {tg : Expr} (a it : Addr) : Turn P w K tg (Itt K a) [it] it (fun i h => h.IsTupleIter it a i) where
  mem := by simp
  obj := fun i h st b hb => by
    have e : b = it := by simpa using hb
    subst e
    obtain ⟨o, e, c, d⟩ := st
    exact ⟨o, e, fun v z => by rw [d] at z; cases z⟩
  keep := fun i h h' st k => st.at fun o e => k it (by simp) o e
  item := by
    intro X hP hw hK hc i pins s σ H E I hf st hg
    subst hP hw hK
    obtain ⟨xs, x, hq, hx⟩ := hg
    obtain ⟨its, rv, p, hz⟩ := I.tuple hq
    obtain ⟨u, hu, ru⟩ := rv.get hx
    obtain ⟨f0, f1, f2, f3, f4, f5⟩ := hf it (by simp)
    refine wpAny_pyNext_tuple_item st (show s.heap.IsTuple a its.toArray from p) (x := u) (by simpa using hu) fun h' st' sb => ?_
    have I1 : Inv X pins σ H { s with heap := h' } := I.turned (t' := s.toks) (fun b o hb e => (sb.2 b hb).trans e) f0 f1 f3 f4 f5
    obtain ⟨o, e, c, d⟩ := id st'
    exact ⟨u, rfl, go_of (s := { s with heap := h' }) e c d (by decide) ⟨x, H, I1, ru, ⟨rfl, fun ys hy => by rw [I.tuple_inj hy hq]; exact hx⟩, st', fun b hb => (hf b hb).1⟩⟩
  done := by
    intro X hP hw hK hc i pins s σ H E I hf st hg
    subst hP hw hK
    obtain ⟨xs, hq, hx⟩ := hg
    obtain ⟨its, rv, p, hz⟩ := I.tuple hq
    obtain ⟨f0, f1, f2, f3, f4, f5⟩ := hf it (by simp)
    have hl := rv.length
    exact wpAny_pyNext_tuple_end (I.ok.hd hc) st (show s.heap.IsTuple a its.toArray from p) (by simp; omega) fun h' eb => ⟨rfl, I.turned (t' := s.toks) (fun b o hb e => eb b o hb e) f0 f1 f3 f4 f5⟩
  self := fun _ _ _ _ _ st h => wpAny_pyIter_tupleiter st h
theorem turn_range {P : Program} {w : World} {K : PySem.W.Frag} {tg : Expr} (it : Addr) (lo : Int) (n : Nat) : Turn P w K tg (Itr lo n) [it] it (fun i h => IsRangeIter h it (lo + (i : Nat) * 1) ((n : Int) - (i : Nat)) 1) where
  mem := by simp
  obj := fun i h st b hb => by
    have e : b = it := by simpa using hb
    subst e
    exact ⟨_, st, fun v z => by
      have z' : Data.fields _ = Data.cell v := z
      cases z'⟩
  keep := fun i h h' st k => k it (by simp) _ st
  item := by
    intro X hP hw hK hc i pins s σ H E I hf st hg
    subst hP hw hK
    obtain ⟨f0, f1, f2, f3, f4, f5⟩ := hf it (by simp)
    have W := Walks.range (prog := X.prog) (w := X.w) (I.ok.hd hc) it lo 1 n
    refine W.item i s _ _ hg st fun v h' tk hv st' kk => ?_
    obtain ⟨t, rfl⟩ := hv
    have I1 : Inv X pins σ H { s with heap := h', toks := tk } := I.turned (fun b o hb e => kk b o (by simpa using hb) e) f0 f1 f3 f4 f5
    refine ⟨_, rfl, go_of (s := { s with heap := h', toks := tk }) (n := "range_iterator") st' rfl rfl (by decide) ⟨.int (lo + i), H, I1, ⟨t, ?_⟩, ⟨rfl, rfl⟩, st', fun b hb => (hf b hb).1⟩⟩
    rw [Int.mul_one]
  done := by
    intro X hP hw hK hc i pins s σ H E I hf st hg
    subst hP hw hK
    obtain ⟨f0, f1, f2, f3, f4, f5⟩ := hf it (by simp)
    exact wpAny_pyNext_range_end (I.ok.hd hc) st (by have : n ≤ i := hg; omega) fun h' eb => ⟨rfl, I.turned (t' := s.toks) (fun b o hb e => eb b o hb e) f0 f1 f3 f4 f5⟩
  self := fun _ _ _ _ _ st h => wpAny_pyIter_rangeiter st h
end L2

namespace L2
open PySem PySem.Spec PyProof.Rows
section
variable {X : Cx} {tg : Expr}
def iList (K : PySem.W.Frag) (tl : TE) : TI := fun σ H R => tl σ H fun x H1 => ∃ a, x = .ref a ∧ (∃ xs, SqL K H1 a xs) ∧ R (Itl K a) H1
def iTup (K : PySem.W.Frag) (tl : TE) : TI := fun σ H R => tl σ H fun x H1 => ∃ a, x = .ref a ∧ (∃ xs, SqT K H1 a xs) ∧ R (Itt K a) H1
theorem pi_list {l : Expr} {tl : TE} (hl : PE X l tl) : PI X tg l (iList X.K tl) := by
  intro pins s σ H R I h
  refine thn (hl pins s σ H _ I h) fun v s1 ⟨x, H1, I1, r1, q1⟩ => ?_
  obtain ⟨a, e, ⟨xs, hq⟩, q⟩ := q1
  subst e
  cases r1
  obtain ⟨its, rv, p, hz⟩ := I1.list hq
  refine wpAny_pyIter_list p.isList ?_
  refine ⟨s1.heap.objs.size, [s1.heap.objs.size], _, _, H1, rfl, I1.kept (t' := s1.toks) fun b o e => Heap.get?_push_of_some _ e, turn_list a _, ⟨_, Heap.get?_push_size _ rfl, rfl, rfl⟩, fun b hb => ?_, q⟩
  have e : b = s1.heap.objs.size := by simpa using hb
  subst e
  exact I1.fpOk (Nat.le_refl _) (I1.hok.fresh (Nat.le_refl _))
theorem pi_tup {l : Expr} {tl : TE} (hl : PE X l tl) : PI X tg l (iTup X.K tl) := by
  intro pins s σ H R I h
  refine thn (hl pins s σ H _ I h) fun v s1 ⟨x, H1, I1, r1, q1⟩ => ?_
  obtain ⟨a, e, ⟨xs, hq⟩, q⟩ := q1
  subst e
  cases r1
  obtain ⟨its, rv, p, hz⟩ := I1.tuple hq
  refine wpAny_pyIter_tuple (show s1.heap.IsTuple a its.toArray from p) ?_
  refine ⟨s1.heap.objs.size, [s1.heap.objs.size], _, _, H1, rfl, I1.kept (t' := s1.toks) fun b o e => Heap.get?_push_of_some _ e, turn_tuple a _, ⟨_, Heap.get?_push_size _ rfl, rfl, rfl⟩, fun b hb => ?_, q⟩
  have e : b = s1.heap.objs.size := by simpa using hb
  subst e
  exact I1.fpOk (Nat.le_refl _) (I1.hok.fresh (Nat.le_refl _))
/-- a range object just made, walked -/
theorem range_it {pins : List (Addr × Obj)} {σ : St} {H : Hp} {s : Shared} {R : It → Hp → Prop} {E : Value → Shared → Prop} {lo hi : Int} {t u v : Tok} {tk : Nat} (I : Inv X pins σ H s) (h1 : -(2 ^ 62) ≤ lo) (h2 : lo < 2 ^ 62) (h3 : -(2 ^ 62) ≤ hi) (h4 : hi < 2 ^ 62)
    (q : R (Itr lo (hi - lo).toNat) H) : wpAny (model X.prog X.w) X.A (pyIter (.ref s.heap.objs.size)) (PIE X pins σ tg R) E { s with heap := s.heap.push { cls := .type "range", data := .fields #[.int lo t, .int hi u, .int 1 v] }, toks := tk } := by
  refine wpAny_pyIter_range (IsRange.new ..) (small_one h1 h2 h3 h4) ?_
  have I1 : Inv X pins σ H { s with heap := s.heap.push { cls := .type "range", data := .fields #[.int lo t, .int hi u, .int 1 v] }, toks := tk } := I.kept fun b o e => Heap.get?_push_of_some _ e
  refine ⟨(s.heap.push { cls := .type "range", data := .fields #[.int lo t, .int hi u, .int 1 v] }).objs.size, [(s.heap.push { cls := .type "range", data := .fields #[.int lo t, .int hi u, .int 1 v] }).objs.size], _, _, H, rfl,
    I1.kept (t' := tk) fun b o e => Heap.get?_push_of_some _ e, turn_range _ lo (hi - lo).toNat, ?_, fun b hb => ?_, q⟩
  · have e1 : lo + ((0 : Nat) : Int) * 1 = lo := by simp
    have e2 : (((hi - lo).toNat : Nat) : Int) - ((0 : Nat) : Int) = Builtin.Range.rangeSize lo hi 1 := by rw [rangeSize_one]; split <;> omega
    show IsRangeIter _ _ (lo + ((0 : Nat) : Int) * 1) ((((hi - lo).toNat : Nat) : Int) - ((0 : Nat) : Int)) 1
    rw [e1, e2]
    exact Heap.get?_push_size _ rfl
  · have e : b = (s.heap.push { cls := .type "range", data := .fields #[.int lo t, .int hi u, .int 1 v] }).objs.size := by simpa using hb
    subst e
    exact I1.fpOk (Nat.le_refl _) (I1.hok.fresh (Nat.le_refl _))
def iRng1 (ta : TA) : TI := fun σ H R => ta σ H fun vs H1 => ∃ j : Int, vs = [.int j] ∧ -(2 ^ 62) ≤ j ∧ j < 2 ^ 62 ∧ R (Itr 0 j.toNat) H1
theorem pi_range1 {a : Expr} {ta : TA} {p pos : Pos} (hg : Gl X "range") (hm : X.mg "range" = none) (ha : PA X [a] ta) (hs : starEach [a] X.env = [(false, eval a X.env)] := by rfl) : PI X tg (.Call (.Name "range" p) [a] [] pos) (iRng1 ta) := by
  intro pins s σ H R I h
  refine Call_ (ld_blt I hg hm boot_range (PyProof.Rows.callWith_type1 (thn (ha pos pins s σ H _ I h) fun us s1 ⟨vs, H1, I1, r1, q1⟩ => ?_) hs rfl))
  obtain ⟨j, e, q1, q2, q⟩ := q1
  subst e
  cases r1 with
  | cons r rr =>
    cases rr
    obtain ⟨t, rfl⟩ := r
    exact call_range_1 (range_it I1 (by omega) (by omega) q1 q2 (by simpa using q))
/-! ### for -/
/-- W: the invariant by the turn and a measure; N: what the body is to reach -/
def tFor (wi : TI) (g : TG) (tb : TS) : TS := fun D σ H => wi σ H fun J H1 => ∃ W : Nat → Nat → St → Hp → Prop, (∃ m, W 0 m σ H1) ∧ ∀ i m σ H, W i m σ H →
  (J.stop i H ∧ D.nx σ H) ∨ (J.go i H ∧ ∃ N : St → Hp → Prop, (∀ σ' H', N σ' H' → ∃ m', m' < m ∧ W (i + 1) m' σ' H') ∧ ∀ x H', J.yld i H x H' → g x σ H' fun σ2 H2 => tb { D with nx := N, ct := N, bk := D.nx } σ2 H2)
/-- the records at fp as they stand -/
def pinsAt (fp : List Addr) (h : Heap) : List (Addr × Obj) := fp.filterMap fun b => (h.get? b).map fun o => (b, o)
theorem mem_pinsAt {fp : List Addr} {h : Heap} {b : Addr} {o : Obj} (hb : b ∈ fp) (e : h.get? b = some o) : (b, o) ∈ pinsAt fp h := List.mem_filterMap.mpr ⟨b, hb, by rw [e]; rfl⟩
theorem of_pinsAt {fp : List Addr} {h : Heap} {p : Addr × Obj} (hp : p ∈ pinsAt fp h) : p.1 ∈ fp ∧ h.get? p.1 = some p.2 := by
  obtain ⟨b, hb, e⟩ := List.mem_filterMap.mp hp
  cases q : h.get? b with
  | none => rw [q] at e; cases e
  | some o =>
    rw [q] at e
    have e' : (b, o) = p := Option.some.inj e
    subst e'
    exact ⟨hb, q⟩
theorem Inv.pinned {pins : List (Addr × Obj)} {σ : St} {H : Hp} {s : Shared} {fp : List Addr} (I : Inv X pins σ H s) (hf : ∀ b ∈ fp, FpOk X pins H b) (ho : ∀ b ∈ fp, ∃ o, s.heap.get? b = some o ∧ ∀ v, o.data ≠ .cell v) : Inv X (pins ++ pinsAt fp s.heap) σ H s :=
  I.pins_of fun p hp => (List.mem_append.mp hp).elim (fun z => I.pin p (List.mem_append_right _ z)) fun z => by
    obtain ⟨hb, e⟩ := of_pinsAt z
    obtain ⟨f0, f1, f2, _⟩ := hf p.1 hb
    obtain ⟨o, e', d⟩ := ho p.1 hb
    rw [e] at e'; cases e'
    exact ⟨e, f0, f1, f2, d⟩
theorem Inv.unpinned {pins pl : List (Addr × Obj)} {σ : St} {H : Hp} {s : Shared} (I : Inv X (pins ++ pl) σ H s) : Inv X pins σ H s := I.pins_of fun p hp => I.pin p (List.mem_append_right _ (List.mem_append_left _ hp))
theorem ps_for {iter : Expr} {body : List Stmt} {wi : TI} {g : TG} {tb : TS} {pos : Pos} (hp : PassesOwn (model X.prog X.w) X.A X.env X.xe) (hc : X.calm = true) (hi : PI X tg iter wi) (hg : PG X tg g) (hb : PSs X body tb)
    (hs : ∀ x, foldedSetIterable iter X.env x = pure x := by intro _; rfl) : PS X (.For tg iter body [] pos) (tFor wi g tb) := by
  intro pins s σ H D I h
  refine wpAny_For (thn (hi pins s σ H _ I h) fun v s1 h1 => thn h1 fun itv s2 h2 => ?_) hs
  obtain ⟨it, fp, tn, J, H2, e, I2, T, st2, f2, W, ⟨m0, w0⟩, turn⟩ := h2
  subst e
  -- what stays true of the iterator's objects through the loop
  have stat : ∀ {H' : Hp}, (∀ b ∈ fp, H' b = none) → ∀ b ∈ fp, FpOk X pins H' b := fun hn b hb => ⟨hn b hb, (f2 b hb).2⟩
  refine codeAny_forLoop_any (fun n s' => ∃ i σ' H', Inv X pins σ' H' s' ∧ tn i s'.heap ∧ (∀ b ∈ fp, H' b = none) ∧ W i n σ' H') ?_ m0 ⟨0, σ, H2, I2, st2, fun b hb => (f2 b hb).1, w0⟩
  rintro n s3 ⟨i, σ3, H3, I3, st3, fr3, w3⟩
  rcases turn i n σ3 H3 w3 with ⟨stop, qn⟩ | ⟨go, N, hN, step⟩
  · refine wpAny_passesOwn hp (thn (T.done X rfl rfl rfl hc i pins s3 σ3 H3 X.xe I3 (stat fr3) st3 stop) fun r s4 ⟨hr, I4⟩ => ?_)
    subst hr
    exact wpAny_execs_nil ⟨σ3, H3, I4, qn⟩
  · refine wpAny_passesOwn hp (thn (T.item X rfl rfl rfl hc i pins s3 σ3 H3 X.xe I3 (stat fr3) st3 go) fun r s4 ⟨u, hr, h4⟩ => ?_)
    subst hr
    refine wpAny_passesOwn hp (thn h4 fun _ s5 ⟨x, H5, I5, r5, y5, st5, fr5⟩ => ?_)
    have I5' := I5.pinned (stat fr5) (T.obj _ _ st5)
    refine wpAny_passesOwn hp (thn (hg _ s5 σ3 H5 x u _ I5' r5 (step x H5 y5)) fun _ s6 ⟨σ6, H6, I6, q6⟩ => ?_)
    refine wpAny_passesOwn hp (thn (hb _ s6 σ6 H6 _ I6 q6) fun f s7 q7 => ?_)
    have again : ∀ {σ7 : St} {H7 : Hp}, Inv X (pins ++ pinsAt fp s5.heap) σ7 H7 s7 → N σ7 H7 → ∃ m, m < n ∧ ∃ i σ' H', Inv X pins σ' H' s7 ∧ tn i s7.heap ∧ (∀ b ∈ fp, H' b = none) ∧ W i m σ' H' := fun {σ7 H7} I7 n7 => by
      obtain ⟨m', hm, w7⟩ := hN σ7 H7 n7
      refine ⟨m', hm, i + 1, σ7, H7, I7.unpinned, T.keep _ _ _ st5 fun b hb o e => (I7.pin (b, o) (List.mem_append_right _ (List.mem_append_right _ (mem_pinsAt hb e)))).1, fun b hb => ?_, w7⟩
      obtain ⟨o, e, d⟩ := T.obj _ _ st5 b hb
      exact (I7.pin (b, o) (List.mem_append_right _ (List.mem_append_right _ (mem_pinsAt hb e)))).2.1
    cases f with
    | next => obtain ⟨σ7, H7, I7, n7⟩ := q7; exact again I7 n7
    | cont => obtain ⟨σ7, H7, I7, n7⟩ := q7; exact again I7 n7
    | brk => obtain ⟨σ7, H7, I7, q7⟩ := q7; exact ⟨σ7, H7, I7.unpinned, q7⟩
    | ret v => obtain ⟨x7, σ7, H7, I7, r7, q7⟩ := q7; exact ⟨x7, σ7, H7, I7.unpinned, r7, q7⟩
end

/-! ### the forms one uses -/
/-- over a list that the body leaves as it is -/
theorem for_list {K : PySem.W.Frag} {a : Addr} {xs : List V} {g : TG} {tb : TS} {D : Ends} {σ : St} {H : Hp} (Pv : Nat → St → Hp → Prop) (h0 : Pv 0 σ H) (hl : ∀ i σ H, i ≤ xs.length → Pv i σ H → SqL K H a xs)
    (hs : ∀ i x σ H, xs[i]? = some x → Pv i σ H → g x σ H fun σ2 H2 => tb { D with nx := Pv (i + 1), ct := Pv (i + 1), bk := D.nx } σ2 H2) (hd : ∀ σ H, Pv xs.length σ H → D.nx σ H) :
    ∃ W : Nat → Nat → St → Hp → Prop, (∃ m, W 0 m σ H) ∧ ∀ i m σ H, W i m σ H →
      ((Itl K a).stop i H ∧ D.nx σ H) ∨ ((Itl K a).go i H ∧ ∃ N : St → Hp → Prop, (∀ σ' H', N σ' H' → ∃ m', m' < m ∧ W (i + 1) m' σ' H') ∧ ∀ x H', (Itl K a).yld i H x H' → g x σ H' fun σ2 H2 => tb { D with nx := N, ct := N, bk := D.nx } σ2 H2) := by
  refine ⟨fun i m σ H => m = xs.length - i ∧ i ≤ xs.length ∧ Pv i σ H, ⟨xs.length, by simp, Nat.zero_le _, h0⟩, ?_⟩
  rintro i m σ H ⟨rfl, hi, p⟩
  have q := hl i σ H hi p
  by_cases hlt : i < xs.length
  · refine .inr ⟨⟨xs, xs[i], q, by simp [hlt]⟩, Pv (i + 1), fun σ' H' p' => ⟨xs.length - (i + 1), by omega, rfl, hlt, p'⟩, fun x H' y => ?_⟩
    obtain ⟨e, y⟩ := y
    subst e
    exact hs i x σ _ (y xs q) p
  · have e : i = xs.length := by omega
    subst e
    exact .inl ⟨⟨xs, q, Nat.le_refl _⟩, hd σ H p⟩
theorem for_range {lo : Int} {n : Nat} {g : TG} {tb : TS} {D : Ends} {σ : St} {H : Hp} (Pv : Nat → St → Hp → Prop) (h0 : Pv 0 σ H)
    (hs : ∀ i σ H, i < n → Pv i σ H → g (.int (lo + i)) σ H fun σ2 H2 => tb { D with nx := Pv (i + 1), ct := Pv (i + 1), bk := D.nx } σ2 H2) (hd : ∀ σ H, Pv n σ H → D.nx σ H) :
    ∃ W : Nat → Nat → St → Hp → Prop, (∃ m, W 0 m σ H) ∧ ∀ i m σ H, W i m σ H →
      ((Itr lo n).stop i H ∧ D.nx σ H) ∨ ((Itr lo n).go i H ∧ ∃ N : St → Hp → Prop, (∀ σ' H', N σ' H' → ∃ m', m' < m ∧ W (i + 1) m' σ' H') ∧ ∀ x H', (Itr lo n).yld i H x H' → g x σ H' fun σ2 H2 => tb { D with nx := N, ct := N, bk := D.nx } σ2 H2) := by
  refine ⟨fun i m σ H => m = n - i ∧ i ≤ n ∧ Pv i σ H, ⟨n, by simp, Nat.zero_le _, h0⟩, ?_⟩
  rintro i m σ H ⟨rfl, hi, p⟩
  by_cases hlt : i < n
  · refine .inr ⟨hlt, Pv (i + 1), fun σ' H' p' => ⟨n - (i + 1), by omega, rfl, hlt, p'⟩, fun x H' y => ?_⟩
    obtain ⟨e, y⟩ := y
    subst e y
    exact hs i σ _ hlt p
  · have e : i = n := by omega
    subst e
    exact .inl ⟨Nat.le_refl _, hd σ H p⟩
end L2

namespace L2
open PySem PySem.Spec PyProof.Rows

abbrev R2 := V → V → Hp → VK → Prop
/-- a two-place operation on values: f is binaryOp op, inplaceOp op or compareOp op -/
def OpR (X : Cx) (f : Value → Value → Sem Value) (r : R2) : Prop :=
  ∀ (pins : List (Addr × Obj)) (s : Shared) (σ : St) (H : Hp) (x y : V) (v u : Value) (Q : VK), Inv X pins σ H s → RelV x v → RelV y u → r x y H Q →
    wpAny (model X.prog X.w) X.A (f v u) (EP X pins σ Q) X.xe s
/-- a call of a value that is known (a builtin, a type) with values -/
def CallR (X : Cx) (f : Value) (r : List V → Hp → VK → Prop) : Prop :=
  ∀ (pins : List (Addr × Obj)) (s : Shared) (σ : St) (H : Hp) (xs : List V) (us : List Value) (Q : VK), Inv X pins σ H s → Vals xs us → r xs H Q →
    wpAny (model X.prog X.w) X.A (call f us) (EP X pins σ Q) X.xe s
def tOp (r : R2) (ta tb : TE) : TE := fun σ H Q => ta σ H fun x H1 => tb σ H1 fun y H2 => r x y H2 Q
/-- ints in, under C, and a value out -/
def rI (C : Int → Int → Prop) (g : Int → Int → V) : R2 := fun x y H Q => ∃ i j, x = .int i ∧ y = .int j ∧ C i j ∧ Q (g i j) H
def rI0 (g : Int → Int → V) : R2 := fun x y H Q => ∃ i j, x = .int i ∧ y = .int j ∧ Q (g i j) H
section
variable {X : Cx} {a b c : Expr} {ta tb tc : TE} {pos : Pos}

theorem binT (ha : PE X a ta) (hb : PE X b tb) {pins : List (Addr × Obj)} {s : Shared} {σ : St} {H : Hp} {R : V → V → Hp → Prop} (I : Inv X pins σ H s)
    (h : ta σ H fun x H1 => tb σ H1 fun y H2 => R x y H2) {Q : Value → Shared → Prop} {f : Value → Value → Sem Value}
    (hf : ∀ v u s2 x y H2, Inv X pins σ H2 s2 → RelV x v → RelV y u → R x y H2 → wpAny (model X.prog X.w) X.A (f v u) Q X.xe s2) :
    wpAny (model X.prog X.w) X.A (eval a X.env) (fun v s₁ => wpAny (model X.prog X.w) X.A (eval b X.env) (fun u s₂ => wpAny (model X.prog X.w) X.A (f v u) Q X.xe s₂) X.xe s₁) X.xe s := by
  refine thn (ha pins s σ H _ I h) fun v s1 ⟨x, H1, I1, r1, q1⟩ => ?_
  refine thn (hb pins s1 σ H1 _ I1 q1) fun u s2 ⟨y, H2, I2, r2, q2⟩ => ?_
  exact hf v u s2 x y H2 I2 r1 r2 q2

theorem pe_op {op : Operator} {r : R2} (ho : OpR X (binaryOp op) r) (ha : PE X a ta) (hb : PE X b tb) : PE X (.BinOp a op b pos) (tOp r ta tb) := by
  intro pins s σ H Q I h
  exact wpAny_BinOp (binT ha hb I h fun v u s2 x y H2 I2 rx ry q => ho pins s2 σ H2 x y v u Q I2 rx ry q)
/-! ### ints -/
theorem opI {f : Value → Value → Sem Value} {C : Int → Int → Prop} {g : Int → Int → Int}
    (rule : ∀ (i j : Int) (t u : Tok) (s : Shared) (Q : Value → Shared → Prop) (E : Value → Shared → Prop), C i j → Q (.int (g i j) s.toks) { s with toks := s.toks + 1 } → wpAny (model X.prog X.w) X.A (f (.int i t) (.int j u)) Q E s) :
    OpR X f (rI C fun i j => .int (g i j)) := by
  intro pins s σ H x y v u Q I rx ry h
  obtain ⟨i, j, rfl, rfl, hc, q⟩ := h
  obtain ⟨t, rfl⟩ := rx
  obtain ⟨t', rfl⟩ := ry
  exact rule i j t t' s _ _ hc ⟨.int (g i j), H, I.tok _, ⟨_, rfl⟩, q⟩
theorem opI0 {f : Value → Value → Sem Value} {g : Int → Int → Int}
    (rule : ∀ (i j : Int) (t u : Tok) (s : Shared) (Q : Value → Shared → Prop) (E : Value → Shared → Prop), Q (.int (g i j) s.toks) { s with toks := s.toks + 1 } → wpAny (model X.prog X.w) X.A (f (.int i t) (.int j u)) Q E s) :
    OpR X f (rI0 fun i j => .int (g i j)) := by
  intro pins s σ H x y v u Q I rx ry h
  obtain ⟨i, j, rfl, rfl, q⟩ := h
  obtain ⟨t, rfl⟩ := rx
  obtain ⟨t', rfl⟩ := ry
  exact rule i j t t' s _ _ ⟨.int (g i j), H, I.tok _, ⟨_, rfl⟩, q⟩
theorem opB0 {f : Value → Value → Sem Value} {g : Int → Int → Bool}
    (rule : ∀ (i j : Int) (t u : Tok) (s : Shared) (Q : Value → Shared → Prop) (E : Value → Shared → Prop), Q (.bool (g i j)) s → wpAny (model X.prog X.w) X.A (f (.int i t) (.int j u)) Q E s) :
    OpR X f (rI0 fun i j => .bl (g i j)) := by
  intro pins s σ H x y v u Q I rx ry h
  obtain ⟨i, j, rfl, rfl, q⟩ := h
  obtain ⟨t, rfl⟩ := rx
  obtain ⟨t', rfl⟩ := ry
  exact rule i j t t' s _ _ ⟨.bl (g i j), H, I, rfl, q⟩

def CDiv (i j : Int) : Prop := 0 < j ∧ j < 1073741824
def CMul (i j : Int) : Prop := (-(2 ^ 64) < i ∧ i < 2 ^ 64) ∨ (-(2 ^ 64) < j ∧ j < 2 ^ 64)
theorem CMul.ok {i j : Int} (h : CMul i j) : IntMulOk i j := by
  rcases h with ⟨h1, h2⟩ | ⟨h1, h2⟩
  · exact .of_left (intBits_le_64 h1 h2)
  · exact .of_right (intBits_le_64 h1 h2)
theorem two_pow_nn (k : Nat) : (0 : Int) ≤ 2 ^ k := by
  rw [two_pow_cast]
  exact Int.natCast_nonneg _

theorem op_add : OpR X (binaryOp .Add) (rI0 fun i j => .int (i + j)) := opI0 fun _ _ _ _ _ _ _ q => add_int q
theorem op_sub : OpR X (binaryOp .Sub) (rI0 fun i j => .int (i - j)) := opI0 fun _ _ _ _ _ _ _ q => sub_int q
theorem op_mul : OpR X (binaryOp .Mult) (rI CMul fun i j => .int (i * j)) := opI fun _ _ _ _ _ _ _ hc q => mul_int q hc.ok
/-- // by a positive divisor -/
theorem op_fdiv : OpR X (binaryOp .FloorDiv) (rI CDiv fun i j => .int (i / j)) := opI fun i j _ _ _ _ _ hc q => by
  have h1 : (0 : Int) < j := hc.1
  have h2 : j < 1073741824 := hc.2
  exact floordiv_int (by omega) (by rw [Int.fdiv_eq_ediv_of_nonneg i (by omega)]; exact q) (.inl (PyProof.noPylong_small (by omega)))
/-- % by a positive divisor of any size -/
theorem op_mod : OpR X (binaryOp .Mod) (rI (fun _ j => 0 < j) fun i j => .int (i % j)) := opI fun i j _ _ _ _ _ hc q => by
  have h1 : (0 : Int) < j := hc
  exact mod_int' (by omega) (by rw [Int.fmod_eq_emod_of_nonneg i (by omega)]; exact q)
theorem op_shr : OpR X (binaryOp .RShift) (rI (fun _ j => 0 ≤ j) fun i j => .int (i / 2 ^ j.toNat)) := opI fun i j _ _ _ _ _ hc q =>
  rshift_int hc (by rw [Int.fdiv_eq_ediv_of_nonneg i (two_pow_nn _)]; exact q)
theorem op_and : OpR X (binaryOp .BitAnd) (rI0 fun i j => .int (Builtin.bitAnd i j)) := opI0 fun _ _ _ _ _ _ _ q => and_int q
/-! ### bools among ints: n += (a < b) -/
end

/-! ### comparisons -/
/-- the scalars that == tells apart as data does -/
def scal : V → V → Bool
  | .non, .non => true | .non, .int _ => true | .int _, .non => true | .non, .bl _ => true | .bl _, .non => true | .non, .str _ => true | .str _, .non => true
  | .int _, .int _ => true | .bl _, .bl _ => true | .str _, .str _ => true | .byt _, .byt _ => true
  | .int _, .str _ => true | .str _, .int _ => true | .bl _, .str _ => true | .str _, .bl _ => true
  | _, _ => false
def rEq : R2 := fun x y H Q => scal x y = true ∧ Q (.bl (decide (x = y))) H
def rNe : R2 := fun x y H Q => scal x y = true ∧ Q (.bl (!decide (x = y))) H

theorem dec_int {i j : Int} : decide (V.int i = V.int j) = (i == j) := by
  rw [Bool.eq_iff_iff]
  simp
theorem dec_bl {i j : Bool} : decide (V.bl i = V.bl j) = (i == j) := by
  rw [Bool.eq_iff_iff]
  simp
theorem dec_str {i j : Str} : decide (V.str i = V.str j) = (i == j) := by
  rw [Bool.eq_iff_iff]
  simp
theorem dec_byt {i j : Array UInt8} : decide (V.byt i = V.byt j) = (i.toList == j.toList) := by
  rw [Bool.eq_iff_iff]
  cases i
  cases j
  simp

section
variable {X : Cx} {a b c : Expr} {ta tb tc : TE} {pos : Pos}
theorem fin_bl {pins : List (Addr × Obj)} {σ : St} {H : Hp} {s : Shared} {Q : VK} {k k' : Bool} (I : Inv X pins σ H s) (q : Q (.bl k) H) (e : k = k') : EP X pins σ Q (.bool k') s := by
  subst e
  exact ⟨.bl k, H, I, rfl, q⟩
theorem op_eq : OpR X (compareOp .Eq) rEq := by
  intro pins s σ H x y v u Q I rx ry h
  obtain ⟨hs, q⟩ := h
  cases x with
  | non =>
    cases rx
    cases y with
    | non => cases ry; exact PySem.EqNone.eq_none_none (fin_bl I q (by simp))
    | bl j => cases ry; exact PySem.EqNone.eq_none_bool (fin_bl I q (by simp))
    | int j => obtain ⟨t', rfl⟩ := ry; exact PySem.EqNone.eq_none_int (fin_bl I q (by simp))
    | str j => obtain ⟨t', rfl⟩ := ry; exact PySem.EqNone.eq_none_str (fin_bl I q (by simp))
    | _ => exact absurd (show false = true from hs) Bool.false_ne_true
  | bl i =>
    cases rx
    cases y with
    | non => cases ry; exact PySem.EqNone.eq_bool_none (fin_bl I q (by simp))
    | bl j => cases ry; exact eq_bool (fin_bl I q dec_bl)
    | str j => obtain ⟨t', rfl⟩ := ry; exact PySem.EqMixed.eq_bool_str (fin_bl I q (by simp))
    | _ => exact absurd (show false = true from hs) Bool.false_ne_true
  | int i =>
    obtain ⟨t, rfl⟩ := rx
    cases y with
    | non => cases ry; exact PySem.EqNone.eq_int_none (fin_bl I q (by simp))
    | int j => obtain ⟨t', rfl⟩ := ry; exact eq_int (fin_bl I q dec_int)
    | str j => obtain ⟨t', rfl⟩ := ry; exact PySem.EqMixed.eq_int_str (fin_bl I q (by simp))
    | _ => exact absurd (show false = true from hs) Bool.false_ne_true
  | str i =>
    obtain ⟨t, rfl⟩ := rx
    cases y with
    | non => cases ry; exact PySem.EqNone.eq_str_none (fin_bl I q (by simp))
    | bl j => cases ry; exact PySem.EqMixed.eq_str_bool (fin_bl I q (by simp))
    | int j => obtain ⟨t', rfl⟩ := ry; exact PySem.EqMixed.eq_str_int (fin_bl I q (by simp))
    | str j => obtain ⟨t', rfl⟩ := ry; exact eq_str (fin_bl I q dec_str)
    | _ => exact absurd (show false = true from hs) Bool.false_ne_true
  | byt i =>
    obtain ⟨t, rfl⟩ := rx
    cases y with
    | byt j => obtain ⟨t', rfl⟩ := ry; exact PySem.W.eq_bytes (fin_bl I q dec_byt)
    | _ => exact absurd (show false = true from hs) Bool.false_ne_true
  | _ => cases y <;> exact absurd (show false = true from hs) Bool.false_ne_true
theorem op_ne : OpR X (compareOp .NotEq) rNe := by
  intro pins s σ H x y v u Q I rx ry h
  obtain ⟨hs, q⟩ := h
  cases x with
  | non =>
    cases rx
    cases y with
    | non => cases ry; exact PySem.EqNone.ne_none_none (fin_bl I q (by simp))
    | bl j => cases ry; exact PySem.EqNone.ne_none_bool (fin_bl I q (by simp))
    | int j => obtain ⟨t', rfl⟩ := ry; exact PySem.EqNone.ne_none_int (fin_bl I q (by simp))
    | str j => obtain ⟨t', rfl⟩ := ry; exact PySem.EqNone.ne_none_str (fin_bl I q (by simp))
    | _ => exact absurd (show false = true from hs) Bool.false_ne_true
  | bl i =>
    cases rx
    cases y with
    | non => cases ry; exact PySem.EqNone.ne_bool_none (fin_bl I q (by simp))
    | bl j => cases ry; exact ne_bool (fin_bl I q (congrArg not dec_bl))
    | str j => obtain ⟨t', rfl⟩ := ry; exact PySem.EqMixed.ne_bool_str (fin_bl I q (by simp))
    | _ => exact absurd (show false = true from hs) Bool.false_ne_true
  | int i =>
    obtain ⟨t, rfl⟩ := rx
    cases y with
    | non => cases ry; exact PySem.EqNone.ne_int_none (fin_bl I q (by simp))
    | int j => obtain ⟨t', rfl⟩ := ry; exact ne_int (fin_bl I q (congrArg not dec_int))
    | str j => obtain ⟨t', rfl⟩ := ry; exact PySem.EqMixed.ne_int_str (fin_bl I q (by simp))
    | _ => exact absurd (show false = true from hs) Bool.false_ne_true
  | str i =>
    obtain ⟨t, rfl⟩ := rx
    cases y with
    | non => cases ry; exact PySem.EqNone.ne_str_none (fin_bl I q (by simp))
    | bl j => cases ry; exact PySem.EqMixed.ne_str_bool (fin_bl I q (by simp))
    | int j => obtain ⟨t', rfl⟩ := ry; exact PySem.EqMixed.ne_str_int (fin_bl I q (by simp))
    | str j => obtain ⟨t', rfl⟩ := ry; exact ne_str (fin_bl I q (congrArg not dec_str))
    | _ => exact absurd (show false = true from hs) Bool.false_ne_true
  | byt i =>
    obtain ⟨t, rfl⟩ := rx
    cases y with
    | byt j => obtain ⟨t', rfl⟩ := ry; exact PySem.W.ne_bytes (fin_bl I q (congrArg not dec_byt))
    | _ => exact absurd (show false = true from hs) Bool.false_ne_true
  | _ => cases y <;> exact absurd (show false = true from hs) Bool.false_ne_true

theorem op_lt : OpR X (compareOp .Lt) (rI0 fun i j => .bl (decide (i < j))) := opB0 fun _ _ _ _ _ _ _ q => lt_int q
theorem op_le : OpR X (compareOp .LtE) (rI0 fun i j => .bl (decide (i ≤ j))) := opB0 fun _ _ _ _ _ _ _ q => le_int q
theorem op_gt : OpR X (compareOp .Gt) (rI0 fun i j => .bl (decide (j < i))) := opB0 fun _ _ _ _ _ _ _ q => gt_int q
theorem op_ge : OpR X (compareOp .GtE) (rI0 fun i j => .bl (decide (j ≤ i))) := opB0 fun _ _ _ _ _ _ _ q => ge_int q
/-- two rules for one operation: by cases -/
theorem OpR.or {f : Value → Value → Sem Value} {r r' : R2} (h : OpR X f r) (h' : OpR X f r') : OpR X f (fun x y H Q => r x y H Q ∨ r' x y H Q) := by
  intro pins s σ H x y v u Q I rx ry q
  rcases q with q | q
  · exact h pins s σ H x y v u Q I rx ry q
  · exact h' pins s σ H x y v u Q I rx ry q

theorem nomark (b : Expr) {op : CmpOp} (h : op ≠ .In := by decide) (h2 : op ≠ .NotIn := by decide) : behindInMarks op b = false := by
  have e1 : (op == CmpOp.In) = false := by cases op <;> first | rfl | exact absurd rfl h
  have e2 : (op == CmpOp.NotIn) = false := by cases op <;> first | rfl | exact absurd rfl h2
  cases b <;> simp [behindInMarks, e1, e2]
/-- a comparison as a value; hm: nomark b, or (for in, not in) by with_unfolding_all rfl -/
theorem pe_cmpR {op : CmpOp} {r : R2} (ho : OpR X (compareOp op) r) (ha : PE X a ta) (hb : PE X b tb) (hm : behindInMarks op b = false) : PE X (.Compare a [op] [b] pos) (tOp r ta tb) := by
  intro pins s σ H Q I h
  exact wpAny_Compare1 (binT ha hb I h fun v u s2 x y H2 I2 rx ry q => ho pins s2 σ H2 x y v u Q I2 rx ry q) hm
/-- a reading of a value as a test -/
def tTest (t : TE) : TT := fun σ H Q => t σ H fun x H' => ∃ k, x = .bl k ∧ Q k H'
theorem pt_cmpR {op : CmpOp} {r : R2} (ho : OpR X (compareOp op) r) (ha : PE X a ta) (hb : PE X b tb) (hm : behindInMarks op b = false) : PT X (.Compare a [op] [b] pos) (tTest (tOp r ta tb)) := by
  intro pins s σ H Q I h
  refine wpAny_isTrue_Compare1 (thn (ha pins s σ H _ I h) fun v s1 ⟨x, H1, I1, r1, q1⟩ => thn (hb pins s1 σ H1 _ I1 q1) fun u s2 ⟨y, H2, I2, r2, q2⟩ =>
    thn (ho pins s2 σ H2 x y v u _ I2 r1 r2 q2) fun c s3 ⟨z, H3, I3, r3, k, e, q3⟩ => ?_) hm
  subst e
  cases r3
  exact wpAny_truthy_bool ⟨H3, I3, q3⟩
/-! ### truth -/
theorem line63 : (sizeLine : Nat) < 2 ^ 63 := by rw [sizeLine_eq]; decide
/-! ### strs and bytes -/
/-! ### scalar builtins, by CallR -/
theorem vals1 {x : V} {us : List Value} (r : Vals [x] us) : ∃ u, us = [u] ∧ RelV x u := by
  cases r with
  | cons r1 r2 => cases r2; exact ⟨_, rfl, r1⟩
end
end L2

namespace L2
open PySem PySem.Spec PyProof.Rows

/-! ### an instance, its attributes a map -/
structure ObjM (h : Heap) (x dx C : Addr) (mA : Str → Option Value) : Prop where
  obj : h.get? x = some (PySem.W.instObj C dx)
  ns : h.Ns1 dx mA
  ne : dx ≠ x

theorem lookIn_ns {h : Heap} {dx : Addr} {mA : Str → Option Value} (n : h.Ns1 dx mA) : ∃ od, h.get? dx = some od ∧ ∀ name, PySem.W.lookIn name od = some (mA name) := by
  obtain ⟨o, es, ep, ho, hd, hk, _, hm⟩ := n
  refine ⟨o, ho, fun name => ?_⟩
  have e := hm name
  unfold nsFind findBy at e
  rw [← Array.find?_toList] at e
  unfold PySem.W.lookIn
  rw [hd]
  dsimp only
  split
  · rename_i y q
    rw [q] at e
    exact congrArg some e
  · rename_i q
    rw [q] at e
    have a : es.toList.any (·.refKey) = false := by
      rw [List.any_eq_false]
      intro y hy
      obtain ⟨z, t, hkey⟩ := hk y (Array.mem_toList_iff.mp hy)
      simp [DictEntry.refKey, hkey]
    have a' : ¬ es.toList.any (·.refKey) = true := by rw [a]; exact Bool.false_ne_true
    rw [if_neg a']
    exact congrArg some e

theorem ObjM.look {h : Heap} {x dx C : Addr} {mA : Str → Option Value} (I : ObjM h x dx C mA) : ∃ od, PySem.W.InstAt h x (PySem.W.instObj C dx) C (some od) ∧ ∀ name, PySem.W.lookIn name od = some (mA name) :=
  let ⟨od, ho, hl⟩ := lookIn_ns I.ns
  ⟨od, ⟨I.obj, rfl, rfl, ho⟩, hl⟩

section
variable {prog : Program} {w : World} {A : Around} {E : Value → Shared → Prop} {s : Shared} {K : PySem.W.Frag} {x dx C f : Addr} {mA : Str → Option Value} {name : Str} {v : Value}

end

/-! ### the attributes as a list of pairs -/
theorem RelO.some_of {v : V} {o : Option Value} (r : RelO (some v) o) : ∃ u, o = some u ∧ RelV v u := by
  cases o with
  | none => exact (show False from r).elim
  | some u => exact ⟨u, rfl, r⟩
section
variable {P : Program} {w : World} {H H' : Hp} {h h' : Heap} {a C dx : Addr} {fs fs' : List (Str × V)}
end

/-! ### what of the text a class must have -/
structure Cls (K : PySem.W.Frag) (C : Addr) : Prop where
  pg : PySem.W.plainGet K C Str.empty = true
  hd : PySem.W.hasDictIn K C = true
  po : PySem.W.plainOver K C = true
  sa : PySem.W.findIn K (.ref C) "__setattr__" = some (some (.builtin "object.__setattr__"))
theorem Cls.get {K : PySem.W.Frag} {C : Addr} (c : Cls K C) (f : Str) : PySem.W.plainGet K C f = true := c.pg
section
variable {X : Cx} {pins : List (Addr × Obj)} {σ : St} {H : Hp} {s : Shared} {a C dx : Addr} {fs : List (Str × V)} {f : Str} {v : V} {A : Around} {E : Value → Shared → Prop}

/-- a new instance, tracked, without attributes -/
theorem Inv.made (I : Inv X pins σ H s) : Inv X pins σ (upd (upd H s.heap.objs.size (.own (s.heap.objs.size + 1))) (s.heap.objs.size + 1) (.ins C s.heap.objs.size []))
    { s with heap := (s.heap.push PySem.W.emptyDict).push (PySem.W.instObj C s.heap.objs.size) } := by
  have e1 : (s.heap.push PySem.W.emptyDict).get? s.heap.objs.size = some PySem.W.emptyDict := Heap.get?_push_size s.heap rfl
  have e2 : ((s.heap.push PySem.W.emptyDict).push (PySem.W.instObj C s.heap.objs.size)).get? (s.heap.objs.size + 1) = some (PySem.W.instObj C s.heap.objs.size) := by
    have := Heap.get?_push_size (s.heap.push PySem.W.emptyDict) (o := PySem.W.instObj C s.heap.objs.size) rfl
    rwa [Heap.size_push] at this
  have e3 : (s.heap.push PySem.W.emptyDict).Ns s.heap.objs.size (fun _ => none) := ⟨PySem.W.emptyDict, #[], _, e1, rfl, (fun e he => absurd he (by simp)), fun _ => rfl⟩
  have I1 := I.laid (a := s.heap.objs.size) (o := .own (s.heap.objs.size + 1)) (h' := s.heap.push PySem.W.emptyDict) (t' := s.toks) (fun b u q => Heap.get?_push_of_some _ q) (Nat.le_refl _) ⟨_, e1⟩
  refine I1.laid (a := s.heap.objs.size + 1) (o := .ins C s.heap.objs.size []) (t' := s.toks) (fun b u q => Heap.get?_push_of_some _ q) (Nat.le_of_eq (Heap.size_push _ _)) ?_
  have ne : s.heap.objs.size ≠ s.heap.objs.size + 1 := Nat.ne_of_lt (Nat.lt_succ_self _)
  refine ⟨by rw [upd_ne ne, upd_same], Nat.zero_le _, ne, e2, fun _ => none, (Heap.Ns1.of_empty e3).at fun o q => Heap.get?_push_of_some _ q, fun _ => True.intro, fun y hy => absurd rfl hy⟩

end

/-! ### readings and rules -/
section
variable {X : Cx} {o e value : Expr} {f : Str} {pos pos' tpos : Pos} {ta tv : TE}
end

/-! ### isinstance -/
section
variable {X : Cx} {pins : List (Addr × Obj)} {σ : St} {H : Hp} {s : Shared} {A : Around} {E : Value → Shared → Prop} {Q : Value → Shared → Prop} {c : Value} {b : Bool}
end
end L2

namespace L2
open PySem PySem.Spec PyProof.Rows

/-! ### room -/
structure Room (k : Nat) (A : Around) : Prop where
  hd : A.handled = none
  dp : A.depth + 3 * k + 5 < recursionLimit
  un : A.units + 16 * k + 200 < cLine
theorem Room.mono {j k : Nat} {A : Around} (r : Room k A) (h : j ≤ k) : Room j A := ⟨r.hd, by have := r.dp; omega, by have := r.un; omega⟩
theorem Room.deeper {k : Nat} {A : Around} (r : Room (k + 1) A) (env : Env) : Room k (A.deeper env) :=
  ⟨r.hd, by have := r.dp; show A.depth + 1 + 3 * k + 5 < _; omega, by have := r.un; show A.units + 3 + 16 * k + 200 < _; omega⟩
theorem Room.in1 {k : Nat} {A : Around} (r : Room (k + 1) A) : Room k A.in1 :=
  ⟨r.hd, by have := r.dp; show A.depth + 3 * k + 5 < _; omega, by have := r.un; show A.units + 1 + 16 * k + 200 < _; omega⟩
theorem Room.depth {k : Nat} {A : Around} (r : Room k A) : A.depth < recursionLimit := by have := r.dp; omega
theorem Room.units {k : Nat} {A : Around} (r : Room k A) : A.units + 64 < cLine := by have := r.un; omega
/-! ### argument lists and displays -/
def tNil : TA := fun _ H Q => Q [] H
def tCons (ta : TE) (tr : TA) : TA := fun σ H Q => ta σ H fun x H1 => tr σ H1 fun xs H2 => Q (x :: xs) H2
section
variable {X : Cx} {e : Expr} {es : List Expr} {te : TE} {t : TA} {pos : Pos}
theorem pa_nil : PA X [] tNil := fun _ _ _ _ H Q I h => Calls.spliced_nil ⟨[], H, I, .nil, h⟩
theorem pa_cons (ha : PE X e te) (hr : PA X es t) (hs : starEach (e :: es) X.env = (false, eval e X.env) :: starEach es X.env := by rfl) : PA X (e :: es) (tCons te t) := by
  intro pos pins s σ H Q I h
  rw [hs]
  show wpAny _ _ (spliced ((false, eval e X.env) :: backTo pos (starEach es X.env))) _ _ s
  refine Calls.spliced_cons (thn (ha pins s σ H _ I h) fun u s1 ⟨x, H1, I1, r1, q1⟩ => ?_)
  exact thn (hr pos pins s1 σ H1 _ I1 q1) fun us s2 ⟨xs, H2, I2, r2, q2⟩ => ⟨x :: xs, H2, I2, .cons r1 r2, q2⟩

def tLst (t : TA) : TE := fun σ H Q => t σ H fun xs H1 => xs.length ≤ sizeLine ∧ ∀ p, H1 p = none → Q (.ref p) (upd H1 p (.lst xs))
theorem pe_lst (h : PA X es t) : PE X (.List es pos) (tLst t) := by
  intro pins s σ H Q I hq
  refine wpAny_List_spliced (thn (h pos pins s σ H _ I hq) fun us s1 ⟨xs, H1, I1, r, z, q⟩ => ⟨by rw [← r.length]; exact z, ?_⟩)
  have hf : H1 s1.heap.objs.size = none := I1.hok.fresh (Nat.le_refl _)
  refine ⟨.ref s1.heap.objs.size, upd H1 s1.heap.objs.size (.lst xs), I1.laid (t' := s1.toks) (fun b u e => Heap.get?_push_of_some _ e) (Nat.le_refl _) ?_, rfl, q _ hf⟩
  exact ⟨z, us, 0, r, Heap.get?_push_size _ rfl⟩
end

/-! ### what a def promises -/
/-- a def's promise: the bound arguments in the parameters' order, the heap, the wanted end, the wanted exception -/
abbrev Sp := List V → Hp → VK → XK → Prop
/-- how an exception lies behind a call (file 08 gives it): the callers' frames, abstract heap and state ahead of the call, the wish, the exception, the state -/
abbrev CXT := List Env → Hp → Shared → XK → Value → Shared → Prop

/-- the state at a call -/
structure Env0 (P : Program) (w : World) (K : PySem.W.Frag) (mg : Str → Option Value) (base : Heap) (A : Around) (outer : List Env) (s : Shared) (H : Hp) : Prop where
  frames : A.frames = some outer
  mod : Mod K mg base
  bs : ∀ b o, base.get? b = some o → s.heap.get? b = some o ∧ H b = none
  bsz : base.objs.size ≤ s.heap.objs.size
  funs : s.heap.FunFrames base outer
  frf : ∀ b ∈ frs outer, H b = none
  hok : HOk P w H s.heap
  bare : AllBare s.gens
/-- a call's end -/
def CE (outer : List Env) (P : Program) (w : World) (H : Hp) (s : Shared) (Q : VK) (u : Value) (s' : Shared) : Prop :=
  ∃ v H', s'.os = s.os ∧ AllBare s'.gens ∧ Un (frs outer) [] H H' s.heap s'.heap ∧ HOk P w H' s'.heap ∧ RelV v u ∧ Q v H'
def CR (CX : CXT) (outer : List Env) (P : Program) (w : World) (H : Hp) (s : Shared) (Q : VK) (E : XK) (r : Result) (s' : Shared) : Prop :=
  match r with
  | .ok (.ret u) => CE outer P w H s Q u s'
  | .ok _ => False
  | .error e => CX outer H s E e s'
structure FnOk (P : Program) (w : World) (K : PySem.W.Frag) (mg : Str → Option Value) (base : Heap) (CX : CXT) (k : Nat) (f : Addr) (fd : FuncData) (ps : List Str) (sp : Sp) : Prop where
  len : ∀ vs H Q E, sp vs H Q E → vs.length = ps.length
  run : ∀ (A : Around) (outer : List Env) (s : Shared) (H : Hp) (args : Args) (us : List Value) (vs : List V) (Q : VK) (E : XK), Room k A → Env0 P w K mg base A outer s H → BindsTo s fd args (ps.zip us) → Vals vs us → sp vs H Q E →
    codeAny (model P w) A (.call (.ref f) args) (CR CX outer P w H s Q E) s
theorem FnOk.mono {P : Program} {w : World} {K : PySem.W.Frag} {mg : Str → Option Value} {base : Heap} {CX : CXT} {j k : Nat} {f : Addr} {fd : FuncData} {ps : List Str} {sp : Sp} (F : FnOk P w K mg base CX j f fd ps sp) (h : j ≤ k) :
    FnOk P w K mg base CX k f fd ps sp := ⟨F.len, fun A outer s H args us vs Q E hr => F.run A outer s H args us vs Q E (hr.mono h)⟩
/-- a weaker promise -/
theorem FnOk.imp {P : Program} {w : World} {K : PySem.W.Frag} {mg : Str → Option Value} {base : Heap} {CX : CXT} {k : Nat} {f : Addr} {fd : FuncData} {ps : List Str} {sp sp' : Sp} (F : FnOk P w K mg base CX k f fd ps sp)
    (h : ∀ vs H Q E, sp' vs H Q E → sp vs H Q E) : FnOk P w K mg base CX k f fd ps sp' :=
  ⟨fun vs H Q E q => F.len vs H Q E (h _ _ _ _ q), fun A outer s H args us vs Q E hr he hb hv hs => F.run A outer s H args us vs Q E hr he hb hv (h _ _ _ _ hs)⟩

theorem Env0.in1 {P : Program} {w : World} {K : PySem.W.Frag} {mg : Str → Option Value} {base : Heap} {A : Around} {outer : List Env} {s : Shared} {H : Hp} (e : Env0 P w K mg base A outer s H) :
    Env0 P w K mg base A.in1 outer s H := ⟨e.frames, e.mod, e.bs, e.bsz, e.funs, e.frf, e.hok, e.bare⟩

section
variable {X : Cx} {pins : List (Addr × Obj)} {σ : St} {H : Hp} {s s' : Shared}
/-- from a body: what a callee wants -/
theorem Inv.env0 (I : Inv X pins σ H s) : Env0 X.prog X.w X.K X.mg X.base X.A X.stack s H :=
  ⟨I.ok.frames, I.ok.mod, I.bs, Nat.le_trans I.ok.bsz I.sz, I.stack, I.stkFree, I.hok, I.bare⟩
/-- behind a call -/
theorem Inv.after {Q : VK} {u : Value} (I : Inv X pins σ H s) (h : CE X.stack X.prog X.w H s Q u s') : EP X pins σ Q u s' := by
  obtain ⟨v, H', os, bare, un, hok, r, q⟩ := h
  obtain ⟨hh, g, d, t, os'⟩ := s'
  obtain rfl : os' = s.os := os
  exact ⟨v, H', I.call (h' := hh) (g' := g) (d' := d) (t' := t) (ch := []) un hok bare (fun b z => absurd z (by simp)), r, q⟩
end

/-! ### calls -/
/-- f(..): the written arguments, then the defaults dvs; E: what is wanted of an exception -/
def tCall (sp : Sp) (dvs : List V) (E : XK) (t : TA) : TE := fun σ H Q => t σ H fun vs H1 => sp (vs ++ dvs) H1 Q E
/-- how the parameters are bound: us the positional arguments, kw the keywords' values by name, ds the defaults that fill up -/
def Binds (K : PySem.W.Frag) (fd : FuncData) (ps : List Str) (ds : List Value) : Prop :=
  ∀ (s : Shared) (us : List Value), K.In s.heap → (us ++ ds).length = ps.length → BindsTo s fd ⟨us, []⟩ (ps.zip (us ++ ds))
/-- every parameter is given -/
theorem Binds.all {K : PySem.W.Frag} {fd : FuncData} {ps : List Str} (h : ∀ us : List Value, us.length = ps.length → bindArgs fd ⟨us, []⟩ = pure (ps.zip us)) : Binds K fd ps [] := fun s us _ hl => by
  rw [List.append_nil] at hl ⊢
  exact .of_eq (h us hl)

/-- an exception of a callee reaches what this body wants of exceptions -/
def Passes (CX : CXT) (X : Cx) (E : XK) : Prop := ∀ (pins : List (Addr × Obj)) (σ : St) (H : Hp) (s : Shared) (e : Value) (s' : Shared), Inv X pins σ H s → CX X.stack H s E e s' → X.xe e s'

section
variable {X : Cx} {CX : CXT} {k : Nat} {f C : Addr} {fd : FuncData} {ps : List Str} {sp : Sp} {dvs : List V} {ds : List Value} {E : XK} {x m : Str} {p pos apos : Pos} {e o : Expr} {es : List Expr} {ta : TE} {t : TA}

/-- the callee runs -/
theorem run_fn {pins : List (Addr × Obj)} {σ : St} {H : Hp} {s : Shared} {Q : VK} {us : List Value} {vs : List V} (F : FnOk X.prog X.w X.K X.mg X.base CX k f fd ps sp) (hr : Room k X.A) (hb : Binds X.K fd ps ds) (hd : Vals dvs ds) (hx : Passes CX X E)
    (I : Inv X pins σ H s) (r : Vals vs us) (h : sp (vs ++ dvs) H Q E) : wpAny (model X.prog X.w) X.A (call (.ref f) us) (EP X pins σ Q) X.xe s := by
  have r2 : Vals (vs ++ dvs) (us ++ ds) := r.append hd
  have hl : (us ++ ds).length = ps.length := by rw [← r2.length]; exact F.len _ _ _ _ h
  refine wpAny_call (codeAny_mono (F.run X.A X.stack s H ⟨us, []⟩ (us ++ ds) (vs ++ dvs) Q E hr I.env0 (hb s us I.kIn hl) r2 h) fun r s' hq => ?_)
  cases r with
  | error e => exact hx pins σ H s e s' I hq
  | ok fl =>
    cases fl with
    | ret u => exact I.after hq
    | next => exact False.elim hq
    | brk => exact False.elim hq
    | cont => exact False.elim hq

theorem pe_call (F : FnOk X.prog X.w X.K X.mg X.base CX k f fd ps sp) (hr : Room k X.A) (hg : Gl X x) (hm : X.mg x = some (.ref f)) (hk : PySem.W.keepIn X.K (.ref f) = true) (hb : Binds X.K fd ps ds) (hd : Vals dvs ds) (hx : Passes CX X E)
    (ha : PA X (e :: es) t) (hdb : (x == ("__debug__" : Str)) = false := by decide) (he : starEach (e :: es) X.env = (false, eval e X.env) :: starEach es X.env := by rfl) (hpl : (backTo pos (starEach es X.env)).any (·.1) = false := by rfl) :
    PE X (.Call (.Name x p) (e :: es) [] pos) (tCall sp dvs E t) := by
  intro pins s σ H Q I h
  refine wpAny_Call_Name_kw (ld_glob I hg hm ?_ hdb)
  refine PySem.W.callWith_K (h₀ := X.base) I.ok.mod.kin hk (thn (ha pos pins s σ H _ I h) fun us s1 ⟨vs, H1, I1, r, q⟩ => ⟨I1.kIn, ?_⟩) he hpl
  exact run_fn F hr hb hd hx I1 r q
end

/-! ### keywords -/
section
variable {X : Cx} {CX : CXT} {k : Nat} {f C : Addr} {fd : FuncData} {ps ks : List Str} {sp : Sp} {E : XK} {x m : Str} {p pos apos kpos : Pos} {e o : Expr} {es : List Expr} {kws : List Keyword} {te ta : TE} {t tk : TA} {nm : Option Str}
variable {g : List Value → List Value → List Value} {gV : List V → List V → List V}
end

/-! ### a def's body keeps its promise -/
/-- names: the parameters first -/
structure FnScope (N P : List Str) (sc : Scope) : Prop where
  kind : sc.kind = .function
  co : sc.isCoroutine = false
  gen : sc.isGenerator = false
  nd : N.Nodup
  pre : N.take P.length = P
  par : ∀ x ∈ P, sc.names.lookup x = some .local ∨ sc.names.lookup x = some .cell
  nofree : ∀ y ∈ sc.names, y.2 ≠ .free

theorem bindL_out {kindOf : Str → Option NameKind} {x : Str} : ∀ {binds : List (Str × Value)} {m : Str → Option Value}, (∀ v, (x, v) ∉ binds) → bindL kindOf binds m x = m x
  | [], _, _ => rfl
  | (n, v) :: r, m, h => by
    unfold bindL
    rw [bindL_out fun w hw => h w (List.mem_cons_of_mem _ hw)]
    split
    · have : x ≠ n := by rintro rfl; exact h v List.mem_cons_self
      simp [this]
    · rfl
theorem bindC_out {kindOf : Str → Option NameKind} {x : Str} : ∀ {binds : List (Str × Value)} {m : Str → Option Value}, (∀ v, (x, v) ∉ binds) → bindC kindOf binds m x = m x
  | [], _, _ => rfl
  | (n, v) :: r, m, h => by
    unfold bindC
    rw [bindC_out fun w hw => h w (List.mem_cons_of_mem _ hw)]
    split
    · rfl
    · have : x ≠ n := by rintro rfl; exact h v List.mem_cons_self
      simp [this]
theorem bindL_get {kindOf : Str → Option NameKind} {x : Str} {v : Value} : ∀ {P : List Str} {vs : List Value} {i : Nat} {m : Str → Option Value}, P.Nodup → P[i]? = some x → vs[i]? = some v → kindOf x = some .local →
    bindL kindOf (P.zip vs) m x = some v
  | [], _, _, _, _, h, _, _ => by simp at h
  | _ :: _, [], _, _, _, _, h, _ => by simp at h
  | p :: P, w :: vs, 0, m, nd, h1, h2, hk => by
    simp at h1 h2; subst h1; subst h2
    show bindL kindOf ((p, w) :: P.zip vs) m p = _
    unfold bindL
    rw [bindL_out fun v hv => (List.nodup_cons.mp nd).1 (List.of_mem_zip hv).1, if_pos hk]
    simp
  | p :: P, w :: vs, i + 1, m, nd, h1, h2, hk => by
    show bindL kindOf ((p, w) :: P.zip vs) m x = _
    unfold bindL
    exact bindL_get (i := i) (List.nodup_cons.mp nd).2 (by simpa using h1) (by simpa using h2) hk
theorem bindC_get {kindOf : Str → Option NameKind} {x : Str} {v : Value} : ∀ {P : List Str} {vs : List Value} {i : Nat} {m : Str → Option Value}, P.Nodup → P[i]? = some x → vs[i]? = some v → kindOf x ≠ some .local →
    bindC kindOf (P.zip vs) m x = some v
  | [], _, _, _, _, h, _, _ => by simp at h
  | _ :: _, [], _, _, _, _, h, _ => by simp at h
  | p :: P, w :: vs, 0, m, nd, h1, h2, hk => by
    simp at h1 h2; subst h1; subst h2
    show bindC kindOf ((p, w) :: P.zip vs) m p = _
    unfold bindC
    rw [bindC_out fun v hv => (List.nodup_cons.mp nd).1 (List.of_mem_zip hv).1, if_neg hk]
    simp
  | p :: P, w :: vs, i + 1, m, nd, h1, h2, hk => by
    show bindC kindOf ((p, w) :: P.zip vs) m x = _
    unfold bindC
    exact bindC_get (i := i) (List.nodup_cons.mp nd).2 (by simpa using h1) (by simpa using h2) hk

/-- the names' values at the entry -/
def start (N : List Str) (vs : List V) : St := vs.map some ++ List.replicate (N.length - vs.length) none

/-- the context of a def's body, at its entry; an exception leaves the frame, then lies as CX says -/
def cxOf (CX : CXT) (P : Program) (w : World) (K : PySem.W.Frag) (mg : Str → Option Value) (base : Heap) (N : List Str) (qual : Str) (scope : Scope) (f : Addr) (cd : Value) (A : Around) (outer : List Env) (s : Shared) (H : Hp) (E : XK) : Cx where
  prog := P
  w := w
  K := K
  mg := mg
  base := base
  A := A.deeper (envOfC qual scope s.heap.objs.size f cd)
  N := N
  s_0 := s
  H_0 := H
  env := envOfC qual scope s.heap.objs.size f cd
  outer := outer
  stack := envOfC qual scope s.heap.objs.size f cd :: outer
  ex := []
  calm := true
  fn := fun _ => true
  pn := []
  xe := fun e s' => wpAny (model P w) (A.deeper (envOfC qual scope s.heap.objs.size f cd)) (leaving (envOfC qual scope s.heap.objs.size f cd) e) (fun _ s'' => CX outer H s E e s'') (fun e' s'' => CX outer H s E e' s'') s'

theorem cell_has {sc : Scope} {n : Nat} {x : Str} (h : sc.names.lookup x = some .cell) : ∃ c, (cellsFrom n sc.names []).lookup x = some c := by
  have q := PySem.W.cellsFrom_some sc.names n [] (.inl h)
  exact Option.isSome_iff_exists.mp q

theorem inv_start {CX : CXT} {P : Program} {w : World} {K : PySem.W.Frag} {mg : Str → Option Value} {base : Heap} {N ps : List Str} {qual : Str} {scope : Scope} {f : Addr} {cd : Value} {A : Around} {outer : List Env} {s s1 : Shared} {H : Hp} {E : XK} {us : List Value} {vs : List V}
    (S : FnScope N ps scope) (hd : A.handled = none) (e0 : Env0 P w K mg base A outer s H) (hl : vs.length = ps.length) (r : Vals vs us)
    (x : InCallC s s.heap.objs.size (bindL (envOfC qual scope s.heap.objs.size f cd).kindOf (ps.zip us) fun _ => none) (cellsFrom (s.heap.objs.size + 1) scope.names []) (bindC (envOfC qual scope s.heap.objs.size f cd).kindOf (ps.zip us) fun _ => none) s1) :
    Inv (cxOf CX P w K mg base N qual scope f cd A outer s H E) [] (start N vs) H s1 := by
  have hpl : ps.length ≤ N.length := by have := congrArg List.length S.pre; rw [List.length_take] at this; omega
  obtain ⟨h1, tk, rfl, hk⟩ := x.done
  have noA : ∀ b : Addr, b ∉ (cxOf CX P w K mg base N qual scope f cd A outer s H E).ex := fun b z => absurd (show b ∈ ([] : List Addr) from z) (by simp)
  refine ⟨⟨e0.mod, S.kind, rfl, rfl, Nat.le_refl _, fun y z c h1 h2 => ?_, fun y hy => ?_, fun y c _ h => ?_, fun _ => hd, Around.frames_deeper e0.frames, .inr ⟨rfl, rfl⟩, fun b z => absurd z (noA b), e0.bs, e0.bsz, fun b _ _ => noA b, fun b z => absurd z (noA b), e0.funs, e0.frf⟩,
    rfl, e0.bare, Un.kept hk, ⟨_, x.toInCall.ns, fun i y v h1 h2 h3 => ?_⟩, fun y c h => ⟨_, x.cell y c h⟩, e0.hok.fresh (Nat.le_refl _), fun y c h => ?_, fun p hp => absurd (show p ∈ ([] : List (Addr × Obj)) from hp) (by simp), e0.hok.kept hk, ?_⟩
  · exact name_of_addr x.apart (PySem.mem_of_lookup h1) (PySem.mem_of_lookup h2)
  · have hy : scope.names.lookup y = some .cell ∨ scope.names.lookup y = some .free := hy
    rcases hy with hy | hy
    · exact cell_has hy
    · exact absurd rfl (S.nofree _ (PySem.mem_of_lookup hy))
  · exact Nat.le_of_lt (x.above y c (PySem.mem_of_lookup h))
  · have hi : i < vs.length := by
      unfold start at h2
      by_cases hi : i < vs.length
      · exact hi
      · rw [List.getElem?_append_right (by simpa using hi)] at h2
        rw [List.getElem?_replicate] at h2
        split at h2 <;> cases h2
    have ha : vs[i]? = some v := by
      unfold start at h2
      rw [List.getElem?_append_left (by simpa using hi), List.getElem?_map] at h2
      cases e : vs[i]? with
      | none => rw [e] at h2; cases h2
      | some a => rw [e] at h2; cases h2; rfl
    obtain ⟨u, hu, rv⟩ := r.get ha
    have hp : ps[i]? = some y := by
      rw [← S.pre, List.getElem?_take_of_lt (by omega)]; exact h1
    have ndP : ps.Nodup := by rw [← S.pre]; exact S.nd.sublist (List.take_sublist _ _)
    refine ⟨u, rv, ?_⟩
    rcases S.par y (List.mem_of_getElem? hp) with k | k
    · exact .inl ⟨k, bindL_get ndP hp hu k⟩
    · obtain ⟨c, e⟩ := cell_has (n := s.heap.objs.size + 1) k
      refine .inr ⟨.inl k, c, e, ?_⟩
      have q := x.cell y c e
      rw [bindC_get ndP hp hu (by show scope.names.lookup y ≠ _; rw [k]; decide)] at q
      exact q
  · exact e0.hok.fresh (Nat.le_of_lt (x.above y c (PySem.mem_of_lookup h)))
  · unfold start
    show _ = N.length
    rw [List.length_append, List.length_map, List.length_replicate]
    omega

/-- THE RULE: a def (or a method) of the text, by its body. The body's reading t is chosen for each entry; it is run at the parameters' values -/
theorem fn_of {CX : CXT} {P : Program} {w : World} {K : PySem.W.Frag} {mg : Str → Option Value} {base : Heap} {k : Nat} {f : Addr} {name qual : Str} {params : Arguments} {body : List Stmt} {scope : Scope} {dV kV doc pm cdv ct oc : Value} {an od : Option Addr}
    {osl : Array (Option Value)} {N ps : List Str} {sp : Sp} (lk : K.lookup f = some ⟨oc, od, .func (PySem.W.fnOf name qual params body scope dV kV doc pm an cdv ct), osl⟩) (hcd : PySem.W.codeIn K cdv qual = true) (S : FnScope N ps scope)
    (len : ∀ vs H Q E, sp vs H Q E → vs.length = ps.length)
    (hbody : ∀ (A : Around) (outer : List Env) (s : Shared) (H : Hp) (vs : List V) (Q : VK) (E : XK), Room k (A.deeper (envOfC qual scope s.heap.objs.size f cdv)) → sp vs H Q E →
      ∃ t, PSs (cxOf CX P w K mg base N qual scope f cdv A outer s H E) body t ∧ t { nx := fun _ H' => Q .non H', rt := Q } (start N vs) H) :
    FnOk P w K mg base CX (k + 1) f (PySem.W.fnOf name qual params body scope dV kV doc pm an cdv ct) ps sp := by
  refine ⟨len, fun A outer s H args us vs Q E hr e0 hb r hsp => ?_⟩
  have hl := len _ _ _ _ hsp
  have KX : K.In s.heap := e0.mod.kin.keeps fun b o e => (e0.bs b o e).1
  have lim : s.heap.NoLimit := e0.mod.nolimit.keeps fun b o e => (e0.bs b o e).1
  have hkind : ∀ y ∈ ps.zip us, scope.names.lookup y.1 = some .local ∨ (scope.names.lookup y.1 = some .cell ∧ ((cellsFrom (s.heap.objs.size + 1) scope.names []).lookup y.1).isSome = true) := fun ⟨n, v⟩ hy => by
    rcases S.par n (List.of_mem_zip hy).1 with q | q
    · exact .inl q
    · exact .inr ⟨q, PySem.W.cellsFrom_some _ _ _ (.inl q)⟩
  refine codeAny_call_function hr.depth (KX _ _ lk) rfl S.co S.gen rfl (PySem.W.codeRec_of KX hcd) (hb _ _ _ _ ?_)
  refine wpAny_newFunctionEnv_cells S.kind hkind fun env he s1 x => ?_
  subst he
  refine ⟨lim.keeps x.toInCall.keep, codeAny_func ?_⟩
  obtain ⟨t, ht, hq⟩ := hbody A outer s H vs Q E (hr.deeper _) hsp
  have I : Inv (cxOf CX P w K mg base N qual scope f cdv A outer s H E) [] (start N vs) H s1 := inv_start S hr.hd e0 hl r x
  refine wpAny_mono (ht [] s1 (start N vs) H _ I hq) (fun fl s' hs => ?_) fun e s' hs => hs
  have fin : ∀ {σ' : St} {H' : Hp} {v : V} {u : Value}, Inv (cxOf CX P w K mg base N qual scope f cdv A outer s H E) [] σ' H' s' → RelV v u → Q v H' → CE outer P w H s Q u s' :=
    fun {σ' H' v u} J rv q => ⟨v, H', J.os, J.bare, J.base, J.hok, rv, q⟩
  cases fl with
  | ret u =>
    obtain ⟨v, σ', H', J, rv, q⟩ := hs
    exact fin J rv q
  | next =>
    obtain ⟨σ', H', J, q⟩ := hs
    exact fin (v := V.non) (u := Value.none) J rfl q
  | brk =>
    obtain ⟨_, _, _, q⟩ := hs
    exact False.elim q
  | cont =>
    obtain ⟨_, _, _, q⟩ := hs
    exact False.elim q
end L2

namespace L2
open PySem PySem.Spec PyProof.Rows
section
variable {X : Cx} {x : Str} {p pos : Pos} {e : Expr} {es : List Expr} {t : TA} {id T : String} {r : List V → Hp → VK → Prop}

def tCB (r : List V → Hp → VK → Prop) (t : TA) : TE := fun σ H Q => t σ H fun vs H1 => r vs H1 Q
/-- f(e, ..), f a built-in function -/
theorem pe_callB (hc : CallR X (.builtin id) r) (hg : Gl X x) (hm : X.mg x = none) (hv : bootBuiltins x = some (.builtin id)) (ha : PA X (e :: es) t) (hn : x ≠ "__name__" := by decide) (hdb : (x == ("__debug__" : Str)) = false := by decide)
    (he : starEach (e :: es) X.env = (false, eval e X.env) :: starEach es X.env := by rfl) (hpl : (backTo pos (starEach es X.env)).any (·.1) = false := by rfl) : PE X (.Call (.Name x p) (e :: es) [] pos) (tCB r t) := by
  intro pins s σ H Q I h
  refine wpAny_Call_Name_kw (ld_blt I hg hm hv ?_ hn hdb)
  exact PyProof.Rows.callWith_builtin1 (thn (ha pos pins s σ H _ I h) fun us s1 ⟨vs, H1, I1, r1, q1⟩ => hc pins s1 σ H1 vs us Q I1 r1 q1) he hpl
/-- T(e, ..), T a built-in type -/
theorem pe_callTy (hc : CallR X (.type T) r) (hg : Gl X x) (hm : X.mg x = none) (hv : bootBuiltins x = some (.type T)) (ha : PA X (e :: es) t) (hn : x ≠ "__name__" := by decide) (hdb : (x == ("__debug__" : Str)) = false := by decide)
    (he : starEach (e :: es) X.env = (false, eval e X.env) :: starEach es X.env := by rfl) (hpl : (backTo pos (starEach es X.env)).any (·.1) = false := by rfl) : PE X (.Call (.Name x p) (e :: es) [] pos) (tCB r t) := by
  intro pins s σ H Q I h
  refine wpAny_Call_Name_kw (ld_blt I hg hm hv ?_ hn hdb)
  exact PyProof.Rows.callWith_type1 (thn (ha pos pins s σ H _ I h) fun us s1 ⟨vs, H1, I1, r1, q1⟩ => hc pins s1 σ H1 vs us Q I1 r1 q1) he hpl
end
end L2

namespace HT
open PySem PyProof.Rows

section
open PySem.SeqAt
open PySem.AutoSeq1 (wpAny_loadPart')
open PySem.MeetsSeq PySem.MeetsSeq2 PySem.MeetsSeq3

end

section
variable {prog : Program} {w : World} {A : Around} {E : Value → Shared → Prop} {s : Shared}

/-! ### t[a:b], not the whole -/
/-- a slice's bound as a place among n (d where it is left out) -/
def sIx (n d : Nat) : Option Int → Nat
  | none => d
  | some v => if v < 0 then (v + (n : Int)).toNat else min v.toNat n
theorem sIx_none (n d : Nat) : sIx n d none = d := rfl
theorem sIx_nat (n d k : Nat) : sIx n d (some (k : Int)) = min k n := by
  show (if (k : Int) < 0 then ((k : Int) + (n : Int)).toNat else min (k : Int).toNat n) = min k n
  rw [if_neg (by omega), Int.toNat_natCast]
theorem sIx_le (n d : Nat) (hd : d ≤ n) (o : Option Int) : sIx n d o ≤ n := by
  cases o with
  | none => exact hd
  | some v =>
    show (if v < 0 then (v + (n : Int)).toNat else min v.toNat n) ≤ n
    by_cases hv : v < 0
    · rw [if_pos hv]; omega
    · rw [if_neg hv]; exact Nat.min_le_right _ _
theorem clip_eq (v : Int) (n d : Nat) : (if v < 0 then max (v + (n : Int)) 0 else min v (n : Int)) = ((sIx n d (some v) : Nat) : Int) := by
  show (if v < 0 then max (v + (n : Int)) 0 else min v (n : Int)) = (((if v < 0 then (v + (n : Int)).toNat else min v.toNat n) : Nat) : Int)
  by_cases hv : v < 0
  · simp only [if_pos hv]; omega
  · simp only [if_neg hv]; omega
theorem adjust_gen (lo hi : Option Int) (n : Nat) : Builtin.Slice.sliceAdjust lo hi 1 (n : Int) = (((sIx n 0 lo : Nat) : Int), ((sIx n n hi : Nat) : Int)) := by
  have h1 : ¬ ((1 : Int) < 0) := by omega
  unfold Builtin.Slice.sliceAdjust
  simp only [h1, if_false]
  refine Prod.ext ?_ ?_
  · cases lo with
    | none => rfl
    | some v => exact clip_eq v n 0
  · cases hi with
    | none => rfl
    | some v => exact clip_eq v n n
theorem places_gen (i j : Nat) : Builtin.Slice.slicePlaces (i : Int) (j : Int) 1 = j - i := by
  unfold Builtin.Slice.slicePlaces
  have h1 : (1 : Int) > 0 := by omega
  simp only [h1, if_true, Int.ediv_one]
  split <;> omega
theorem slicePart_ {v : Value} {o : Option Int} {Q : Option Int → Shared → Prop} (p : IsPart v o) (h : Q o s) : wpAny (model prog w) A (Builtin.Slice.slicePartIndex v) Q E s := by
  cases p with
  | none => exact slicePart_none h
  | int i t => exact slicePart_int h
theorem sliceApplied_gen {sl : Addr} {vl vu : Value} {lo hi : Option Int} {n : Nat} {Q : Int × Int × Nat → Shared → Prop} (hs : s.heap.IsSliceOf sl vl vu .none) (pl : IsPart vl lo) (pu : IsPart vu hi)
    (h : Q (((sIx n 0 lo : Nat) : Int), 1, sIx n n hi - sIx n 0 lo) s) : wpAny (model prog w) A (Builtin.Slice.sliceApplied (.ref sl) (pure (n : Int))) Q E s := by
  obtain ⟨os, hos, hcs, hds⟩ := id hs
  unfold Builtin.Slice.sliceApplied Builtin.Slice.sliceFields
  refine wpAny_bind (wpAny_bind (wpAny_field hos hds (x := vl) rfl (wpAny_bind (wpAny_field hos hds (x := vu) rfl (wpAny_bind (wpAny_field hos hds (x := .none) rfl (wpAny_pure ?_)))))))
  refine wpAny_bind (slicePart_none ?_)
  show wpAny _ _ (if ((1 : Int) == 0) = true then _ else _) _ _ s
  rw [if_neg (by decide)]
  refine wpAny_bind (slicePart_ pl (wpAny_bind (slicePart_ pu (wpAny_bind (wpAny_pure ?_)))))
  show wpAny _ _ (match Builtin.Slice.sliceAdjust lo hi 1 (n : Int) with | (lo, hi) => pure (lo, (1 : Int), Builtin.Slice.slicePlaces lo hi 1)) _ _ s
  rw [adjust_gen lo hi n]
  show wpAny _ _ (pure (((sIx n 0 lo : Nat) : Int), (1 : Int), Builtin.Slice.slicePlaces ((sIx n 0 lo : Nat) : Int) ((sIx n n hi : Nat) : Int) 1)) _ _ s
  rw [places_gen]
  exact wpAny_pure h
theorem pick_gen (xs : Array Value) (i k : Nat) : ((List.range k).filterMap fun (m : Nat) => xs[((i : Int) + (m : Int) * 1).toNat]?).toArray = ((xs.toList.drop i).take k).toArray := by
  have e : (fun (m : Nat) => xs[((i : Int) + (m : Int) * 1).toNat]?) = fun m => xs[i + m]? := by
    funext m
    have : ((i : Int) + (m : Int) * 1).toNat = i + m := by omega
    rw [this]
  rw [e]
  have := pick_run xs i k
  rw [List.filterMap_map] at this
  have e2 : ((fun x => xs[x]?) ∘ fun x => i + x) = fun m => xs[i + m]? := rfl
  rw [e2] at this
  rw [this]

theorem getItem_tuple_cut {t sl : Addr} {items : Array Value} {vl vu : Value} {lo hi : Option Int} {Q : Value → Shared → Prop} (ht : IsTup s.heap t items) (hs : s.heap.IsSliceOf sl vl vu .none) (pl : IsPart vl lo) (pu : IsPart vu hi)
    (hw : ¬ (sIx items.size 0 lo = 0 ∧ sIx items.size items.size hi = items.size))
    (h : Q (.ref s.heap.objs.size) { s with heap := s.heap.push { cls := .type "tuple", data := .seq ((items.toList.drop (sIx items.size 0 lo)).take (sIx items.size items.size hi - sIx items.size 0 lo)).toArray } })
    (hsz : items.size ≤ sizeLine) : wpAny (model prog w) A (getItem (.ref t) (.ref sl)) Q E s := by
  have htake : sizeOk (.seq ((items.toList.drop (sIx items.size 0 lo)).take (sIx items.size items.size hi - sIx items.size 0 lo)).toArray) := by
    show ((items.toList.drop (sIx items.size 0 lo)).take (sIx items.size items.size hi - sIx items.size 0 lo)).toArray.size ≤ sizeLine
    rw [List.size_toArray, List.length_take, List.length_drop, Array.length_toList]
    omega
  have hj : sIx items.size items.size hi ≤ items.size := sIx_le _ _ (Nat.le_refl _) hi
  obtain ⟨os, hos, hcs, hds⟩ := id hs
  have hTs : s.TypeIs (.ref sl) "slice" := ⟨os, hos, hcs⟩
  unfold getItem
  try with_reducible refine wpAny_holding ?_
  first | refine wpAny_bind (wpAny_pure ?_) | skip
  refine wpAny_bind (wpAny_sequenceKey ht.typeIs (by decide) ?_)
  refine wpAny_bind (wpAny_callSpecial?_slot (name := Str.ofString "__getitem__") ht.typeIs PyProof.Rows.slot_tuple_getitem
    (wpAny_call_entry PyProof.Rows.slot_tuple_getitem ht.typeIs entry_tuple_getitem ?_ (args_tuple_getitem _ _)))
  show wpAny _ _ (Builtin.Tuple.tupleItemsOf (.ref t) >>= _) _ _ s
  refine wpAny_bind (tupleItemsOf_ ht ?_)
  refine wpAny_bind (wpAny_typeOf hTs ?_)
  rw [if_pos (by decide)]
  refine wpAny_bind (sliceApplied_gen hs pl pu ?_)
  have hno : ¬ ((((sIx items.size 0 lo : Nat) : Int) == 0 && (1 : Int) == 1 && (sIx items.size items.size hi - sIx items.size 0 lo) == items.size) = true) := by
    intro q
    rw [Bool.and_eq_true, Bool.and_eq_true] at q
    have q1 : ((sIx items.size 0 lo : Nat) : Int) = 0 := eq_of_beq q.1.1
    have q2 : sIx items.size items.size hi - sIx items.size 0 lo = items.size := eq_of_beq q.2
    exact hw ⟨by omega, by omega⟩
  show wpAny _ _ (if (((sIx items.size 0 lo : Nat) : Int) == 0 && (1 : Int) == 1 && (sIx items.size items.size hi - sIx items.size 0 lo) == items.size) = true then _ else _) _ _ s
  rw [if_neg hno, pick_gen]
  first
    | exact wpAny_bind (m := Builtin.Tuple.tupleExact _) (wpAny_newObj_type (wpAny_pure ⟨_, rfl, wpAny_pure h⟩) htake)
    | exact wpAny_bind (m := Builtin.Tuple.tupleExact _) (wpAny_newObj_type (wpAny_bind (wpAny_pure (wpAny_pure ⟨_, rfl, wpAny_pure h⟩))) htake)
    | exact wpAny_bind (wpAny_bind (m := Builtin.Tuple.tupleExact _) (wpAny_newObj_type (wpAny_pure (wpAny_pure ⟨_, rfl, wpAny_pure h⟩)) htake))
    | exact wpAny_bind (wpAny_bind (m := Builtin.Tuple.tupleExact _) (wpAny_newObj_type (wpAny_pure ⟨_, rfl, wpAny_pure h⟩) htake))
end
end HT

namespace L2
open PySem PySem.Spec PyProof.Rows

/-! ### the parts of a slice -/
abbrev TO := St → Hp → (Option Int → Hp → Prop) → Prop
/-- a slice's part (left out, or an int) -/
def PO (X : Cx) (e : Option Expr) (t : TO) : Prop :=
  ∀ (pins : List (Addr × Obj)) (s : Shared) (σ : St) (H : Hp) (Q : Option Int → Hp → Prop), Inv X pins σ H s → t σ H Q →
    wpAny (model X.prog X.w) X.A (evalPart e X.env) (fun u s' => ∃ o H', Inv X pins σ H' s' ∧ IsPart u o ∧ Q o H') X.xe s
def tNoPart : TO := fun _ H Q => Q none H
def tPart (t : TE) : TO := fun σ H Q => t σ H fun x H1 => ∃ i, x = .int i ∧ Q (some i) H1

section
variable {X : Cx} {e : Expr} {te : TE} {lo hi : Option Expr} {tl th : TO} {pos p2 : Pos}

theorem po_none : PO X none tNoPart := by
  intro pins s σ H Q I h
  rw [evalPart_none]
  exact wpAny_pure ⟨none, H, I, .none, h⟩
theorem po_some (h : PE X e te) : PO X (some e) (tPart te) := by
  intro pins s σ H Q I hw
  rw [evalPart_some]
  refine thn (h pins s σ H _ I hw) fun u s1 ⟨x, H1, I1, r1, q1⟩ => ?_
  obtain ⟨i, rfl, q⟩ := q1
  obtain ⟨t, rfl⟩ := r1
  exact ⟨some i, H1, I1, .int i t, q⟩

/-- what a slice of a value is, by values: the slice object stands at sl -/
def SlR (X : Cx) (r : V → Option Int → Option Int → Hp → VK → Prop) : Prop :=
  ∀ (pins : List (Addr × Obj)) (s : Shared) (σ : St) (H : Hp) (x : V) (v vl vu : Value) (lo hi : Option Int) (sl : Addr) (Q : VK), Inv X pins σ H s → RelV x v → s.heap.IsSliceOf sl vl vu .none → IsPart vl lo → IsPart vu hi → r x lo hi H Q →
    ∃ T id, typeLookup (.type T) "__getitem__" = pure (some (.builtin id)) ∧ s.TypeIs v T ∧ wpAny (model X.prog X.w) X.A (getItem v (.ref sl)) (EP X pins σ Q) X.xe s
theorem SlR.or {r r' : V → Option Int → Option Int → Hp → VK → Prop} (h : SlR X r) (h' : SlR X r') : SlR X (fun x lo hi H Q => r x lo hi H Q ∨ r' x lo hi H Q) := by
  intro pins s σ H x v vl vu lo hi sl Q I rx hs pl pu q
  rcases q with q | q
  · exact h pins s σ H x v vl vu lo hi sl Q I rx hs pl pu q
  · exact h' pins s σ H x v vl vu lo hi sl Q I rx hs pl pu q
def tSl (r : V → Option Int → Option Int → Hp → VK → Prop) (te : TE) (tl th : TO) : TE := fun σ H Q => te σ H fun x H1 => tl σ H1 fun l H2 => th σ H2 fun u H3 => r x l u H3 Q
/-- a[lo:hi], any a -/
theorem pe_slice {r : V → Option Int → Option Int → Hp → VK → Prop} (hr : SlR X r) (he : PE X e te) (hl : PO X lo tl) (hu : PO X hi th) : PE X (.Subscript e (.Slice lo hi none p2) pos) (tSl r te tl th) := by
  intro pins s σ H Q I h
  refine Subscript_ (thn (he pins s σ H _ I h) fun v s1 ⟨x, H1, I1, r1, q1⟩ => ?_)
  refine wpAny_Slice (thn (hl pins s1 σ H1 _ I1 q1) fun vl s2 ⟨l, H2, I2, pl, q2⟩ => thn (hu pins s2 σ H2 _ I2 q2) fun vu s3 ⟨u, H3, I3, pu, q3⟩ => ?_)
  rw [evalPart_none]
  refine wpAny_pure ?_
  have I4 : Inv X pins σ H3 { s3 with heap := s3.heap.push { cls := .type "slice", data := .fields #[vl, vu, .none] } } := I3.kept (t' := s3.toks) fun b ob q => Heap.get?_push_of_some _ q
  obtain ⟨T, id, hT, ht, hg⟩ := hr pins { s3 with heap := s3.heap.push { cls := .type "slice", data := .fields #[vl, vu, .none] } } σ H3 x v vl vu l u s3.heap.objs.size Q I4 r1 (Heap.IsSliceOf.new ..) pl pu q3
  show wpAny (model X.prog X.w) X.A (subscriptTail e (.Slice lo hi none p2) v (.ref s3.heap.objs.size)) (EP X pins σ Q) X.xe { s3 with heap := s3.heap.push { cls := .type "slice", data := .fields #[vl, vu, .none] } }
  exact tail_any (ops := [.ref s3.heap.objs.size, v]) ht hT hg (by with_unfolding_all rfl)

/-- the items of xs[lo:hi] -/
def cutV (xs : List V) (lo hi : Option Int) : List V := (xs.drop (HT.sIx xs.length 0 lo)).take (HT.sIx xs.length xs.length hi - HT.sIx xs.length 0 lo)
theorem cutV_length (xs : List V) (lo hi : Option Int) : (cutV xs lo hi).length ≤ xs.length := by
  unfold cutV
  rw [List.length_take, List.length_drop]
  omega
/-- t[lo:hi], not the whole of it (the whole would be t itself) -/
def rSlT (K : PySem.W.Frag) : V → Option Int → Option Int → Hp → VK → Prop := fun x lo hi H Q => ∃ a xs, x = .ref a ∧ SqT K H a xs ∧
  ¬ (HT.sIx xs.length 0 lo = 0 ∧ HT.sIx xs.length xs.length hi = xs.length) ∧ ∀ p, H p = none → Q (.ref p) (upd H p (.tup (cutV xs lo hi)))
theorem sl_tup : SlR X (rSlT X.K) := by
  intro pins s σ H x v vl vu lo hi sl Q I rx hs pl pu h
  obtain ⟨a, xs, rfl, hx, hw, q⟩ := h
  cases rx
  obtain ⟨its, r, ht, hz⟩ := I.tuple hx
  have hlen : its.toArray.size = xs.length := by rw [List.size_toArray]; exact r.length.symm
  refine ⟨"tuple", _, PyProof.Rows.slot_tuple_getitem.lookup, ht.typeIs, ?_⟩
  refine HT.getItem_tuple_cut ht hs pl pu (by rw [hlen]; exact hw) ?_ (by rw [hlen]; exact hz)
  rw [hlen]
  refine ⟨.ref s.heap.objs.size, _, I.laid (t' := s.toks) (o := .tup (cutV xs lo hi)) (fun b ob q => Heap.get?_push_of_some _ q) (Nat.le_refl _) ?_, rfl, q _ (I.hok.fresh (Nat.le_refl _))⟩
  exact ⟨Nat.le_trans (cutV_length xs lo hi) hz, _, (r.drop (HT.sIx xs.length 0 lo)).take (HT.sIx xs.length xs.length hi - HT.sIx xs.length 0 lo), IsTup.new _ _⟩

/-! ### t < u, t + u -/
end
end L2

namespace L2
open PySem PySem.Spec PyProof.Rows

/-! ### places -/
/-- the place that an index of any sign means -/
def ixN (n : Nat) (i : Int) : Option Nat := if 0 ≤ i then (if i < n then some i.toNat else none) else if -(n : Int) ≤ i then some (i + n).toNat else none
def atI {α : Type} (xs : List α) (i : Int) : Option α := (ixN xs.length i).bind fun j => xs[j]?
theorem ixN_seq {n : Nat} {i : Int} {j : Nat} (h : ixN n i = some j) : seqIndex? i n = some j ∧ j < n ∧ -(n : Int) ≤ i ∧ i < n := by
  unfold ixN at h
  by_cases h0 : 0 ≤ i
  · rw [if_pos h0] at h
    by_cases h1 : i < n
    · rw [if_pos h1] at h
      have e : i.toNat = j := Option.some.inj h
      exact ⟨by rw [seqIndex_of h0 h1, e], by omega, by omega, h1⟩
    · rw [if_neg h1] at h; cases h
  · rw [if_neg h0] at h
    by_cases h1 : -(n : Int) ≤ i
    · rw [if_pos h1] at h
      have e : (i + n).toNat = j := Option.some.inj h
      exact ⟨by rw [seqIndex_neg (by omega) h1, e], by omega, h1, by omega⟩
    · rw [if_neg h1] at h; cases h
theorem atI_get {α : Type} {xs : List α} {i : Int} {v : α} (h : atI xs i = some v) : ∃ j, seqIndex? i xs.length = some j ∧ xs[j]? = some v ∧ j < xs.length ∧ -(xs.length : Int) ≤ i ∧ i < xs.length := by
  unfold atI at h
  cases e : ixN xs.length i with
  | none => rw [e] at h; cases h
  | some j =>
    rw [e] at h
    obtain ⟨h1, h2, h3, h4⟩ := ixN_seq e
    exact ⟨j, h1, h, h2, h3, h4⟩
theorem atI_nat {α : Type} {xs : List α} {j : Nat} {v : α} (h : xs[j]? = some v) : atI xs (j : Int) = some v := by
  have hj : j < xs.length := (List.getElem?_eq_some_iff.mp h).1
  have e : ixN xs.length (j : Int) = some j := by
    unfold ixN
    rw [if_pos (by omega), if_pos (by omega)]; simp
  unfold atI; rw [e]; exact h
/-! ### what may be subscripted -/
/-- what stands as an index of a plain subscript -/
def PlainIx (b : Expr) : Prop := ∀ o i, subscripted b false o i = operate [o, i] (getItem o i)
/-- a subscript by values -/
def IxR (X : Cx) (r : R2) : Prop :=
  ∀ (value slice : Expr) (pins : List (Addr × Obj)) (s : Shared) (σ : St) (H : Hp) (x y : V) (v u : Value) (Q : VK), Inv X pins σ H s → RelV x v → RelV y u → r x y H Q →
    subscripted slice false v u = operate [v, u] (getItem v u) → wpAny (model X.prog X.w) X.A (subscriptTail value slice v u) (EP X pins σ Q) X.xe s
/-- a call of a builtin's method by values: the receiver, the arguments -/
def MtR (X : Cx) (id : String) (r : V → List V → Hp → VK → Prop) : Prop :=
  ∀ (pins : List (Addr × Obj)) (s : Shared) (σ : St) (H : Hp) (x : V) (xs : List V) (v : Value) (us : List Value) (Q : VK), Inv X pins σ H s → RelV x v → Vals xs us → r x xs H Q →
    wpAny (model X.prog X.w) X.A (call (.builtin id) (v :: us)) (EP X pins σ Q) X.xe s
section
variable {X : Cx} {a b : Expr} {ta tb : TE} {pos : Pos}
theorem IxR.or {r r' : R2} (h : IxR X r) (h' : IxR X r') : IxR X (fun x y H Q => r x y H Q ∨ r' x y H Q) := by
  intro value slice pins s σ H x y v u Q I rx ry q hs
  rcases q with q | q
  · exact h value slice pins s σ H x y v u Q I rx ry q hs
  · exact h' value slice pins s σ H x y v u Q I rx ry q hs
theorem MtR.or {id : String} {r r' : V → List V → Hp → VK → Prop} (h : MtR X id r) (h' : MtR X id r') : MtR X id (fun x xs H Q => r x xs H Q ∨ r' x xs H Q) := by
  intro pins s σ H x xs v us Q I rx rs q
  rcases q with q | q
  · exact h pins s σ H x xs v us Q I rx rs q
  · exact h' pins s σ H x xs v us Q I rx rs q
/-- a[b] -/
theorem pe_ix {r : R2} (hr : IxR X r) (ha : PE X a ta) (hb : PE X b tb) (hs : PlainIx b) : PE X (.Subscript a b pos) (tOp r ta tb) := by
  intro pins s σ H Q I h
  exact Subscript_ (binT ha hb I h fun v u s2 x y H2 I2 rx ry q => hr a b pins s2 σ H2 x y v u Q I2 rx ry q (hs _ _))

def rIxL (K : PySem.W.Frag) : R2 := fun x y H Q => ∃ p xs i v, x = .ref p ∧ y = .int i ∧ SqL K H p xs ∧ atI xs i = some v ∧ Q v H
def rIxT (K : PySem.W.Frag) : R2 := fun x y H Q => ∃ p xs i v, x = .ref p ∧ y = .int i ∧ SqT K H p xs ∧ atI xs i = some v ∧ Q v H
theorem ix_list : IxR X (rIxL X.K) := by
  intro value slice pins s σ H x y v u Q I rx ry h hs
  obtain ⟨p, xs, i, z, rfl, rfl, hq, he, q⟩ := h
  cases rx
  obtain ⟨t, rfl⟩ := ry
  obtain ⟨its, r, pl, hz⟩ := I.list hq
  obtain ⟨j, h1, h2, h3, h4, h5⟩ := atI_get he
  obtain ⟨w, ew, rw'⟩ := r.get h2
  have hl := r.length
  have hn := line63
  have fin : EP X pins σ Q w s := ⟨z, H, I, rw', q⟩
  by_cases h0 : 0 ≤ i
  · have hj : i.toNat = j := by
      rw [seqIndex_of h0 h5] at h1
      exact Option.some.inj h1
    exact item_listR pl.isList h0 (by omega) (by rw [hj]; simpa using ew) fin hs
  · have hj : (i + (its.toArray.size : Int)).toNat = j := by
      rw [seqIndex_neg (by omega) h4] at h1
      rw [List.size_toArray, ← hl]
      exact Option.some.inj h1
    exact subscriptTail_builtinR (x := w) pl.isList.typeIs slot_list_getitem.lookup
      (wpAny_getItem_list_neg (Q := fun r s' => r = w ∧ EP X pins σ Q r s') pl.isList (by omega) (by rw [List.size_toArray] <;> omega) (by omega) (by rw [hj]; simpa using ew) ⟨rfl, fin⟩) hs
theorem ix_tup : IxR X (rIxT X.K) := by
  intro value slice pins s σ H x y v u Q I rx ry h hs
  obtain ⟨p, xs, i, z, rfl, rfl, hq, he, q⟩ := h
  cases rx
  obtain ⟨t, rfl⟩ := ry
  obtain ⟨its, r, pl, hz⟩ := I.tuple hq
  obtain ⟨j, h1, h2, h3, h4, h5⟩ := atI_get he
  obtain ⟨w, ew, rw'⟩ := r.get h2
  have hl := r.length
  have hn := line63
  have fin : EP X pins σ Q w s := ⟨z, H, I, rw', q⟩
  exact subscriptTail_builtinR (x := w) pl.typeIs slot_tuple_getitem.lookup
    (getItem_tuple (j := j) (Q := fun r s' => r = w ∧ EP X pins σ Q r s') pl (by omega) (by omega) (by rw [List.size_toArray, ← hl]; exact h1) (by simpa using ew) ⟨rfl, fin⟩) hs
/-! ### xs[i] = v, any sign -/
theorem Inv.lst {pins : List (Addr × Obj)} {σ : St} {H : Hp} {s : Shared} {p : Addr} {xs : List V} (I : Inv X pins σ H s) (h : H p = some (.lst xs)) :
    ∃ (its : List Value) (n : Nat), Vals xs its ∧ s.heap.get? p = some { cls := .type "list", data := .seq its.toArray n } ∧ xs.length ≤ sizeLine := by
  obtain ⟨z, its, n, r, e⟩ := I.hok p _ h
  exact ⟨its, n, r, e, z⟩
/-! ### slices -/
/-! ### in, not in: flat items -/
/-! ### len, list(x), tuple(x) of any list or tuple that is read -/
theorem call_len_seq : CallR X (.builtin "len") (fun xs H Q => ∃ p ys, xs = [.ref p] ∧ (SqL X.K H p ys ∨ SqT X.K H p ys) ∧ Q (.int ys.length) H) := by
  intro pins s σ H xs us Q I r h
  obtain ⟨p, ys, rfl, hq, q⟩ := h
  obtain ⟨u, rfl, rx⟩ := vals1 r
  cases rx
  have hn := line63
  rcases hq with hq | hq
  · obtain ⟨its, r', pl, hz⟩ := I.list hq
    have hlen := r'.length
    exact Calls.call_len_list pl.isList (by simp only [List.size_toArray] <;> omega) ⟨.int ys.length, H, I.tok _, ⟨s.toks + 1, by rw [List.size_toArray, hlen]⟩, q⟩
  · obtain ⟨its, r', pl, hz⟩ := I.tuple hq
    have hlen := r'.length
    exact len_tuple pl (by simp only [List.size_toArray] <;> omega) ⟨.int ys.length, H, I.tok _, ⟨s.toks + 1, by rw [List.size_toArray, hlen]⟩, q⟩
theorem CallR.or {f : Value} {r r' : List V → Hp → VK → Prop} (h : CallR X f r) (h' : CallR X f r') : CallR X f (fun xs H Q => r xs H Q ∨ r' xs H Q) := by
  intro pins s σ H xs us Q I rs q
  rcases q with q | q
  · exact h pins s σ H xs us Q I rs q
  · exact h' pins s σ H xs us Q I rs q
theorem call_tuple_of : CallR X (.type "tuple") (fun xs H Q => ∃ p ys, xs = [.ref p] ∧ ((SqL X.K H p ys ∧ ∀ l, H l = none → Q (.ref l) (upd H l (.tup ys))) ∨ (SqT X.K H p ys ∧ Q (.ref p) H))) := by
  intro pins s σ H xs us Q I r h
  obtain ⟨p, ys, rfl, h⟩ := h
  obtain ⟨u, rfl, rx⟩ := vals1 r
  cases rx
  rcases h with ⟨hq, q⟩ | ⟨hq, q⟩
  · obtain ⟨its, r', pl, hz⟩ := I.list hq
    have hlen := r'.length
    refine call_tuple_list pl.isList (fun h' kp => ?_) (by simp only [List.size_toArray] <;> omega)
    have I1 : Inv X pins σ H { s with heap := h' } := I.kept (t' := s.toks) kp
    have I2 : Inv X pins σ (upd H h'.objs.size (.tup ys)) { s with heap := h'.push { cls := .type "tuple", data := .seq its.toArray } } :=
      I1.laid (t' := s.toks) (fun b o e => Heap.get?_push_of_some _ e) (Nat.le_refl _) (show ObjOk X.prog X.w _ _ _ (.tup ys) from ⟨hz, its, r', IsTup.new _ _⟩)
    exact ⟨.ref h'.objs.size, _, I2, rfl, q _ (I1.hok.fresh (Nat.le_refl _))⟩
  · obtain ⟨its, r', pl, hz⟩ := I.tuple hq
    exact call_tuple_same pl ⟨.ref p, H, I, rfl, q⟩

/-! ### the call of a builtin's method: o.m(..) -/
/-- the value is of that builtin type -/
def tyV (K : PySem.W.Frag) (T : String) (x : V) (H : Hp) : Prop := match x with
  | .str _ => T = "str"
  | .int _ => T = "int"
  | .ref p => (T = "list" ∧ ∃ xs, SqL K H p xs) ∨ (T = "tuple" ∧ ∃ o, K.lookup p = some o ∧ o.cls = .type "tuple" ∧ o.dict = none) ∨
      (T = "dict" ∧ ((∃ kvs, H p = some (.dK kvs)) ∨ ∃ kvs, H p = some (.dT kvs))) ∨ (T = "set" ∧ ∃ S n, H p = some (.set S n))
  | _ => False
theorem tyV_is {pins : List (Addr × Obj)} {σ : St} {H : Hp} {s : Shared} {T : String} {x : V} {v : Value} (I : Inv X pins σ H s) (r : RelV x v) (ty : tyV X.K T x H) :
    s.TypeIs v T ∧ ∀ a, v = .ref a → ∃ ob, s.heap.get? a = some ob ∧ ob.dict = none := by
  cases x with
  | str z =>
    obtain ⟨t, rfl⟩ := r
    cases (show T = "str" from ty)
    exact ⟨typeIs_str s z t, fun _ e => nomatch e⟩
  | int i =>
    obtain ⟨t, rfl⟩ := r
    cases (show T = "int" from ty)
    exact ⟨typeIs_int s i t, fun _ e => nomatch e⟩
  | ref p =>
    cases r
    rcases ty with ⟨rfl, xs, hq⟩ | ⟨rfl, o, hk, hc, hd⟩ | ⟨rfl, hk⟩ | ⟨rfl, S, n, hk⟩
    · obtain ⟨its, _, pl, _⟩ := I.list hq
      refine ⟨pl.isList.typeIs, fun a e => ?_⟩
      cases e
      obtain ⟨o, n, e, c, hd, _⟩ := pl
      exact ⟨o, e, hd⟩
    · refine ⟨⟨o, I.kIn p o hk, hc⟩, fun a e => ?_⟩
      cases e
      exact ⟨o, I.kIn _ o hk, hd⟩
    · have z : ∃ o, s.heap.get? p = some o ∧ o.ExactDict := by
        rcases hk with ⟨kvs, hk⟩ | ⟨kvs, hk⟩
        · obtain ⟨_, _, _, _, o, _, _, e, ex, _⟩ := I.hok p _ hk
          exact ⟨o, e, ex⟩
        · obtain ⟨_, _, _, _, o, _, _, e, ex, _⟩ := I.hok p _ hk
          exact ⟨o, e, ex⟩
      obtain ⟨o, e, ex⟩ := z
      refine ⟨⟨o, e, ex.1⟩, fun a e2 => ?_⟩
      cases e2
      exact ⟨o, e, ex.2.1⟩
    · obtain ⟨o, _, _, _, e, ex, _⟩ := I.hok p _ hk
      refine ⟨⟨o, e, ex.1⟩, fun a e2 => ?_⟩
      cases e2
      exact ⟨o, e, ex.2.1⟩
  | _ => exact False.elim ty
def tBM (K : PySem.W.Frag) (T : String) (r : V → List V → Hp → VK → Prop) (to : TE) (t : TA) : TE := fun σ H Q => to σ H fun x H1 => tyV K T x H1 ∧ t σ H1 fun xs H2 => r x xs H2 Q
variable {o e : Expr} {es : List Expr} {to : TE} {t : TA} {name : Str} {apos cpos : Pos} {T id : String} {r : V → List V → Hp → VK → Prop}
theorem pe_bm (pa : PlainAttrs T) (slot : Slot T name id) (hty : typeOf (.builtin id) = pure (.type "method_descriptor")) (hm : MtR X id r) (ho : PE X o to) (ha : PA X (e :: es) t)
    (hbase : attributeBase o name X.env (eval o X.env) = eval o X.env := by rfl)
    (hfew : ((backTo cpos (starEach (e :: es) X.env)).all (fun x => !x.1) && (backToKw cpos (keywordEach [] X.env)).all (fun x => x.1.isSome)
      && decide ((e :: es).length + ([] : List Keyword).length + (if ([] : List Keyword).isEmpty then 0 else 1) < 30)) = true := by rfl)
    (hline : (apos.endLine == cpos.line) = true := by rfl) (hs : starEach (e :: es) X.env = (false, eval e X.env) :: starEach es X.env := by rfl) (hplain : (backTo cpos (starEach es X.env)).any (·.1) = false := by rfl) :
    PE X (.Call (.Attribute o name apos) (e :: es) [] cpos) (tBM X.K T r to t) := by
  intro pins s σ H Q I h
  refine wpAny_Call_method_late hbase hfew hline rfl (thn (ho pins s σ H _ I h) fun v s1 ⟨x, H1, I1, r1, ty, q1⟩ => ?_)
  obtain ⟨h1, h2⟩ := tyV_is I1 r1 ty
  refine ⟨T, id, pa, slot, hty, h1, h2, ?_⟩
  have hA := ha cpos pins s1 σ H1 _ I1 q1
  rw [hs] at hA ⊢
  refine Calls.callWith_builtin (by show (false || (backTo cpos (starEach es X.env)).any (·.1)) = false; rw [hplain] <;> rfl) (Calls.evalArgs_plain ?_)
  exact thn hA fun us s2 ⟨vs, H2, I2, r2, q2⟩ => hm pins s2 σ H2 x vs v us Q I2 r1 r2 q2
/- xs.append(e), list.index on a module's tuple .. are MtR facts of 06m -/
end
end L2

namespace L2
open PySem PySem.Spec PyProof.Rows

def MtM (X : Cx) (id : String) (r : V → List V → Hp → VK → Prop) : Prop :=
  ∀ (pins : List (Addr × Obj)) (s : Shared) (σ : St) (H : Hp) (x : V) (xs : List V) (v : Value) (us : List Value) (Q : VK), Inv X pins σ H s → RelV x v → Vals xs us → r x xs H Q →
    wpAny (model X.prog X.w) X.A (call (.builtin id) (v :: us)) (EP X pins σ Q) X.xe s

/-! ### lists of values -/
theorem Vals.one : ∀ {x : V} {us : List Value}, Vals [x] us → ∃ u, us = [u] ∧ RelV x u
  | _, _, .cons r .nil => ⟨_, rfl, r⟩
theorem Vals.two : ∀ {x y : V} {us : List Value}, Vals [x, y] us → ∃ u v, us = [u, v] ∧ RelV x u ∧ RelV y v
  | _, _, _, .cons r (.cons q .nil) => ⟨_, _, rfl, r, q⟩
theorem Vals.zero : ∀ {us : List Value}, Vals [] us → us = []
  | _, .nil => rfl
theorem Vals.dropLast {xs : List V} {us : List Value} (h : Vals xs us) : Vals xs.dropLast us.dropLast := by
  induction h with
  | nil => exact .nil
  | cons r t ih =>
    cases t with
    | nil => exact .nil
    | cons q t' => exact .cons r ih
theorem Vals.reverse {xs : List V} {us : List Value} (h : Vals xs us) : Vals xs.reverse us.reverse := by
  induction h with
  | nil => exact .nil
  | cons r t ih => rw [List.reverse_cons, List.reverse_cons]; exact Vals.append ih (.cons r .nil)
theorem Vals.rep {xs : List V} {us : List Value} (h : Vals xs us) : ∀ k : Nat, Vals (List.replicate k xs).flatten (List.replicate k us).flatten
  | 0 => .nil
  | k + 1 => by
    rw [List.replicate_succ, List.replicate_succ, List.flatten_cons, List.flatten_cons]
    exact Vals.append h (Vals.rep h k)
theorem foldl_rep (its : List Value) : ∀ (k : Nat) (acc : List Value),
    List.foldl (fun x1 x2 => x1 ++ x2) acc.toArray (List.replicate k its.toArray) = (acc ++ (List.replicate k its).flatten).toArray
  | 0, acc => by simp
  | k + 1, acc => by
    have e : acc.toArray ++ its.toArray = (acc ++ its).toArray := by simp
    have e2 : (acc ++ its) ++ (List.replicate k its).flatten = acc ++ (List.replicate (k + 1) its).flatten := by
      rw [List.replicate_succ, List.flatten_cons, List.append_assoc]
    rw [← e2, ← foldl_rep its k (acc ++ its), ← e, List.replicate_succ, List.foldl_cons]

section
variable {X : Cx} {pins : List (Addr × Obj)} {σ : St} {H : Hp} {s : Shared} {l b : Addr} {xs ys zs : List V}

/-! ### the two steps: a tracked list is rewritten, a new list is laid -/
theorem Inv.lset {its its' : List Value} {n : Nat} {f : Array Value → Array Value} {t' : Nat} (I : Inv X pins σ H s) (hH : H l = some (.lst xs))
    (e : s.heap.get? l = some { cls := .type "list", data := .seq its.toArray n }) (hf : f its.toArray = its'.toArray) (hv : Vals ys its') (hz : ys.length ≤ sizeLine) :
    Inv X pins σ (upd H l (.lst ys)) { s with heap := s.heap.update l (Obj.mapSeq f), toks := t' } := by
  have q := PySem.IsL.update e f
  rw [hf] at q
  refine I.write (x := l) (e := l) (by rw [hH]; exact trivial) (.inl rfl) (fun b' u hb hu => (Heap.get?_update_other s.heap (Obj.mapSeq f) (Ne.symm hb)).trans hu) ⟨_, q⟩ ?_
  exact ⟨hz, its', _, hv, q⟩
theorem Inv.lnew {its : List Value} {t' : Nat} (I : Inv X pins σ H s) (hv : Vals ys its) (hz : ys.length ≤ sizeLine) :
    Inv X pins σ (upd H s.heap.objs.size (.lst ys)) { s with heap := s.heap.push { cls := .type "list", data := .seq its.toArray }, toks := t' } :=
  I.laid (fun _ _ q => Heap.get?_push_of_some _ q) (Nat.le_refl _) ⟨hz, its, 0, hv, Heap.get?_push_size _ rfl⟩
theorem Inv.fresh (I : Inv X pins σ H s) : H s.heap.objs.size = none := I.hok.fresh (Nat.le_refl _)
theorem Inv.lstM (I : Inv X pins σ H s) (hH : H l = some (.lst xs)) : xs.length ≤ sizeLine ∧ ∃ (its : List Value) (n : Nat), Vals xs its ∧ xs.length = its.length ∧ s.heap.get? l = some { cls := .type "list", data := .seq its.toArray n } := by
  obtain ⟨z, its, n, r, e⟩ := I.hok l _ hH
  exact ⟨z, its, n, r, r.length, e⟩

theorem notLongL {n : Nat} (h : n ≤ sizeLine) : Builtin.List.listTooLong n = false := by
  unfold Builtin.List.listTooLong
  exact decide_eq_false (by omega)
end

section
variable {X : Cx}

/-! ### methods -/
def rExtend : V → List V → Hp → VK → Prop := fun x vs H Q => ∃ l b xs zs, x = .ref l ∧ vs = [.ref b] ∧ H l = some (.lst xs) ∧ H b = some (.lst zs) ∧ xs.length + zs.length ≤ sizeLine ∧ Q .non (upd H l (.lst (xs ++ zs)))
theorem mt_extend : MtM X "list.extend" rExtend := by
  intro pins s σ H x vs v us Q I rx rv h
  obtain ⟨l, b, xs, zs, rfl, rfl, hH, hB, hz, q⟩ := h
  cases rx
  obtain ⟨u, rfl, ru⟩ := rv.one
  cases ru
  obtain ⟨z, its, n, r, hl, e⟩ := I.lstM hH
  obtain ⟨z2, its2, n2, r2, hl2, e2⟩ := I.lstM hB
  have hsz : its.toArray.size + its2.toArray.size ≤ sizeLine := by rw [List.size_toArray, List.size_toArray]; omega
  have hlong : ¬ (!its.toArray.isEmpty && Builtin.List.listTooLong (its.toArray.size + its2.toArray.size)) = true := by
    rw [notLongL hsz, Bool.and_false]
    exact Bool.false_ne_true
  refine call_meets F.slot_list_extend ⟨_, e, rfl⟩ F.entry_list_extend (F.args_list_extend_2 _ _)
    (AutoSeq1.list_extend_list_list_0 l its.toArray n b its2.toArray n2 hlong (by rw [List.size_toArray]; omega) (by omega)) ⟨e, e2, ?_⟩
  refine ⟨.non, _, I.lset (its' := its ++ its2) hH e (by simp) (r.append r2) ?_, rfl, q⟩
  rw [List.length_append]
  omega

/-! ### list + list, list += list, list * int -/
/-- a list times an int (a negative one is nothing) -/
def rRep : R2 := fun x y H Q => ∃ l k xs, x = .ref l ∧ y = .int k ∧ H l = some (.lst xs) ∧ -(2 ^ 63) ≤ k ∧ k < 2 ^ 63 ∧ xs.length * k.toNat ≤ sizeLine ∧
  ∀ p, H p = none → Q (.ref p) (upd H p (.lst (List.replicate k.toNat xs).flatten))
theorem len_rep {α : Type} (xs : List α) (k : Nat) : (List.replicate k xs).flatten.length = k * xs.length := by
  induction k with
  | zero => simp
  | succ k ih => rw [List.replicate_succ, List.flatten_cons, List.length_append, ih, Nat.succ_mul, Nat.add_comm]
theorem op_rep : OpR X (binaryOp .Mult) rRep := by
  intro pins s σ H x y v u Q I rx ry h
  obtain ⟨l, k, xs, rfl, rfl, hH, h1, h2, hz, q⟩ := h
  cases rx
  obtain ⟨t, rfl⟩ := ry
  obtain ⟨z, its, n, r, hl, e⟩ := I.lstM hH
  have hlen : its.toArray.size * k.toNat ≤ sizeLine := by rw [List.size_toArray, ← hl]; exact hz
  have hcap : ¬ its.toArray.size * k.toNat > (2 ^ 63 - 1) / 8 := by
    have : (sizeLine : Nat) ≤ (2 ^ 63 - 1) / 8 := by decide
    omega
  have hfit : ¬ (!Builtin.List.listFitsIndex k) = true := by
    rw [fitsIndex_both h1 h2]
    exact Bool.false_ne_true
  have hlong : ¬ Builtin.List.listTooLong (its.toArray.size * k.toNat) = true := by
    rw [notLongL hlen]
    exact Bool.false_ne_true
  have hnew : List.foldl (fun x1 x2 => x1 ++ x2) #[] (List.replicate (if its.toArray.isEmpty = true then 0 else k.toNat) its.toArray) = (List.replicate k.toNat its).flatten.toArray := by
    have f0 : ∀ m : Nat, List.foldl (fun x1 x2 => x1 ++ x2) #[] (List.replicate m its.toArray) = (List.replicate m its).flatten.toArray := fun m => by
      have := foldl_rep its m []
      rw [List.nil_append] at this
      exact this
    rw [f0]
    cases its with
    | nil => simp
    | cons a r' => rw [if_neg (by simp)]
  refine wpAny_binaryOp_repeat_ref (T := "list") (U := "int") (by decide) ⟨_, e, rfl⟩ (fun s' => typeIs_int s' k t) noFill_list_mul F.fills_int_mul F.slot_int_rmul repeat_list F.slot_int_index.lookup
    (call_meets F.slot_int_rmul (typeIs_int s k t) F.entry_int_rmul (F.args_int_rmul_2 _ _) (int___rmul___int_list k t l its.toArray n)
      ⟨e, rfl, ⟨_, e, rfl⟩, call_meets F.slot_list_mul ⟨_, e, rfl⟩ F.entry_list_mul (F.args_list_mul_2 _ _) (AutoListH.list___mul___list_int_3 l its.toArray n k t hfit hcap hlong) ⟨e, ?_⟩⟩)
  rw [hnew]
  exact ⟨.ref _, _, I.lnew (t' := s.toks) (r.rep k.toNat) (by rw [len_rep, Nat.mul_comm]; exact hz), rfl, q _ I.fresh⟩

/-! ### del xs[i] -/
end

/-! ### xs[a:b] = ys -/
section
variable {prog : Program} {w : World} {A : Around} {E : Value → Shared → Prop} {s : Shared}
end

section
variable {X : Cx}
end
end L2

namespace L2
open PySem PySem.Spec PyProof.Rows

theorem Vals.ints : ∀ {ns : List Int} {us : List Value}, Vals (ns.map V.int) us → IntsAre us ns
  | [], us, h => by
    rw [List.map_nil] at h
    cases h
    exact IntsAre.nil
  | n :: ns, us, h => by
    rw [List.map_cons] at h
    cases h with
    | cons r t =>
      obtain ⟨k, rfl⟩ := r
      exact IntsAre.cons n k (Vals.ints t)
theorem Vals.strs : ∀ {xs : List Str} {us : List Value}, Vals (xs.map V.str) us → StrsAre us xs
  | [], us, h => by
    rw [List.map_nil] at h
    cases h
    exact StrsAre.nil
  | x :: xs, us, h => by
    rw [List.map_cons] at h
    cases h with
    | cons r t =>
      obtain ⟨k, rfl⟩ := r
      exact StrsAre.cons x k (Vals.strs t)
theorem Vals.bls : ∀ {bs : List Bool} {us : List Value}, Vals (bs.map V.bl) us → us = bs.map Value.bool
  | [], us, h => by
    rw [List.map_nil] at h
    cases h
    rfl
  | b :: bs, us, h => by
    rw [List.map_cons] at h
    cases h with
    | cons r t =>
      cases r
      rw [Vals.bls t, List.map_cons]
theorem Vals.ref1 {a : Addr} {us : List Value} (r : Vals [V.ref a] us) : us = [Value.ref a] := by
  cases r with
  | cons r t =>
    cases t
    cases r
    rfl
/-! ### the library's walks over a list of ints, kept objects alone -/
section
variable {prog : Program} {w : World} {A : Around} {E : Value → Shared → Prop} {s : Shared} {l : Addr} {its : List Value} {ns : List Int} {Q : Value → Shared → Prop}
theorem sum_raw (hh : A.handled = none) (hl : s.heap.IsList l its.toArray) (hi : IntsAre its ns)
    (h : ∀ h' tk t', (∀ b o, s.heap.get? b = some o → h'.get? b = some o) → Q (.int ns.sum t') { s with heap := h', toks := tk }) : wpAny (model prog w) A (call (.builtin "sum") [.ref l]) Q E s := by
  obtain ⟨xs, e⟩ := hi.allInts.items
  have hn : numsOf (intItems xs).toList = ns := by rw [← e]; exact hi.numsOf
  rw [nums_intItems] at hn
  rw [e] at hl
  refine PySem.sum_intListG hh hl fun h' tk t' hk => ?_
  have := h h' tk t' hk
  rw [preSum_eq, List.take_of_length_le (by simp), hn]; exact this
end

/-! ### the calls, by values (CallR of 03t; MtR of 06l) -/
section
variable {X : Cx}
/-- sum(xs) of a list of ints -/
def rSum (K : PySem.W.Frag) : List V → Hp → VK → Prop := fun vs H Q => ∃ (a : Addr) (ns : List Int), vs = [V.ref a] ∧ SqL K H a (ns.map V.int) ∧ Q (.int ns.sum) H
theorem cr_sum (hc : X.calm = true) : CallR X (.builtin "sum") (rSum X.K) := by
  intro pins s σ H vs us Q I r h
  obtain ⟨a, ns, rfl, hs, q⟩ := h
  obtain ⟨its, rv, hl, _⟩ := I.list hs
  rw [Vals.ref1 r]
  exact sum_raw (I.ok.hd hc) hl.isList rv.ints fun h' tk t' hk => ⟨.int _, H, I.kept hk, ⟨_, rfl⟩, q⟩
/-! sorted, sort (fewer than 64 items: the library's own bound) -/
end

/-! ### list.index, flat items -/
section
variable {X : Cx}
end

/-! ### type(x) of an own instance; is, is not of a module's class -/
section
variable {X : Cx}
end

/-! ### any(xs), all(xs) of a list of bools -/
theorem iter_any {prog : Program} {w : World} {A : Around} {E : Value → Shared → Prop} {s : Shared} {l : Addr} {items : Array Value} {Q : Value → Shared → Prop} (hl : s.heap.IsList l items)
    (h : ∀ s₂ : Shared, s₂ = { s with heap := s.heap.push { cls := .type "list_iterator", data := .fields #[.ref l, .int 0 0] } } →
      (s₂.heap.IsListIter s.heap.objs.size l 0 ∧ s₂.heap.IsList l items) → l ≠ s.heap.objs.size → Q (.ref s.heap.objs.size) s₂) : wpAny (model prog w) A (pyIter (.ref l)) Q E s := by
  have hlt : l < s.heap.objs.size := by obtain ⟨_, e, _⟩ := hl; exact Heap.lt_size e
  exact wpAny_pyIter_list hl (h _ rfl ⟨⟨_, Heap.get?_push_size _ rfl, rfl, rfl⟩, hl.push _⟩ (Nat.ne_of_lt hlt))
theorem truth_bools {prog : Program} {w : World} {A : Around} {bs : List Bool} {its : List Value} (e : its = bs.map Value.bool) :
    TruthOf prog w A (fun i v => its.toArray[i]? = some v) (fun i => bs.getD i false) := fun i v s Q E hv hq => by
  have hv' : its[i]? = some v := by simpa using hv
  rw [e, List.getElem?_map] at hv'
  obtain ⟨b, hb, rfl⟩ := Option.map_eq_some_iff.mp hv'
  have hg : bs.getD i false = b := by rw [List.getD_eq_getElem?_getD, hb] <;> rfl
  have hq' : Q (bs.getD i false) s := hq
  rw [hg] at hq'
  exact wpAny_truthy_bool hq'
theorem all_range : ∀ bs : List Bool, (List.range bs.length).all (fun i => bs.getD i false) = bs.all id
  | [] => rfl
  | b :: bs => by
    rw [List.length_cons, List.range_succ_eq_map, List.all_cons, List.all_map, List.all_cons, ← all_range bs]
    all_goals rfl
section
variable {X : Cx}
def rAll (K : PySem.W.Frag) : List V → Hp → VK → Prop := fun vs H Q => ∃ (a : Addr) (bs : List Bool), vs = [V.ref a] ∧ SqL K H a (bs.map V.bl) ∧ Q (.bl (bs.all id)) H
theorem cr_all (hc : X.calm = true) : CallR X (.builtin "all") (rAll X.K) := by
  intro pins s σ H vs us Q I r h
  obtain ⟨a, bs, rfl, hs, q⟩ := h
  obtain ⟨its, rv, hl, _⟩ := I.list hs
  rw [Vals.ref1 r]
  have hb := rv.bls
  refine call_all_walk (iter_any hl.isList fun s₂ e2 st hne => ?_)
  subst e2
  refine ⟨_, _, _, _, _, _, _, rfl, Walks.list (A := X.A.in1) (I.ok.hd hc) _ a hne its.toArray, st, truth_bools hb, fun h' tk hk => ?_⟩
  refine ⟨.bl _, H, I.kept fun b o eo => hk b o (fun hmem => ?_) (Heap.get?_push_of_some _ eo), ?_, q⟩
  · rcases List.mem_cons.mp hmem with e1 | hmem
    · exact absurd (e1 ▸ Heap.lt_size eo) (Nat.lt_irrefl _)
    · cases hmem
  · show Value.bool _ = Value.bool _
    rw [← all_range, hb, List.size_toArray, List.length_map]
end

/-! ### == and != of data at any depth: none, bools, ints, texts, lists, tuples -/
mutual
inductive Dp (K : PySem.W.Frag) (H : Hp) : V → PyData → Prop
  | non : Dp K H .non .none
  | bl (b : Bool) : Dp K H (.bl b) (.bool b)
  | int (i : Int) : Dp K H (.int i) (.int i)
  | str (x : Str) : Dp K H (.str x) (.str x)
  | lst {a : Addr} {xs : List V} {ds : List PyData} : SqL K H a xs → DpAll K H xs ds → Dp K H (.ref a) (.list ds)
  | tup {a : Addr} {xs : List V} {ds : List PyData} : SqT K H a xs → DpAll K H xs ds → Dp K H (.ref a) (.tuple ds)
inductive DpAll (K : PySem.W.Frag) (H : Hp) : List V → List PyData → Prop
  | nil : DpAll K H [] []
  | cons {v : V} {vs : List V} {d : PyData} {ds : List PyData} : Dp K H v d → DpAll K H vs ds → DpAll K H (v :: vs) (d :: ds)
end
section
variable {X : Cx} {pins : List (Addr × Obj)} {σ : St} {H : Hp} {s : Shared}
mutual
theorem Dp.reads (I : Inv X pins σ H s) : ∀ (d : PyData) (v : V) (u : Value), Dp X.K H v d → RelV v u → ∃ as, Reads s.heap u d as
  | .none, _, _, h, r => by
    cases h
    cases r
    exact ⟨_, Reads.none⟩
  | .bool b, _, _, h, r => by
    cases h
    cases r
    exact ⟨_, Reads.bool b⟩
  | .int i, _, _, h, r => by
    cases h
    obtain ⟨t, rfl⟩ := r
    exact ⟨_, Reads.int i t⟩
  | .str x, _, _, h, r => by
    cases h
    obtain ⟨t, rfl⟩ := r
    exact ⟨_, Reads.str x t⟩
  | .list ds, _, _, h, r => by
    cases h with
    | lst hs ha =>
      cases r
      obtain ⟨its, rv, ⟨o, n, ho, hc, _, hd⟩, _⟩ := I.list hs
      obtain ⟨as, hr⟩ := Dp.readsAll I ds _ its ha rv
      exact ⟨_, Reads.list ho hc hd hr⟩
  | .tuple ds, _, _, h, r => by
    cases h with
    | tup hs ha =>
      cases r
      obtain ⟨its, rv, ⟨o, ho, hc, n, hd⟩, _⟩ := I.tuple hs
      obtain ⟨as, hr⟩ := Dp.readsAll I ds _ its ha rv
      exact ⟨_, Reads.tuple ho hc hd hr⟩
  | .dict _, _, _, h, _ => by cases h
theorem Dp.readsAll (I : Inv X pins σ H s) : ∀ (ds : List PyData) (vs : List V) (us : List Value), DpAll X.K H vs ds → Vals vs us → ∃ as, ReadsAll s.heap us ds as
  | [], _, _, h, r => by
    cases h
    cases r
    exact ⟨_, ReadsAll.nil⟩
  | d :: ds, _, _, h, r => by
    cases h with
    | cons h1 h2 =>
      cases r with
      | cons r1 r2 =>
        obtain ⟨as, q1⟩ := Dp.reads I d _ _ h1 r1
        obtain ⟨bs, q2⟩ := Dp.readsAll I ds _ _ h2 r2
        exact ⟨_, ReadsAll.cons q1 q2⟩
end
end
section
variable {X : Cx}
end
end L2

namespace L2
open PySem PySem.Spec PyProof.Rows
abbrev CellAt (h : Heap) (c : Addr) (v : Option Value) : Prop := h.IsCell c v
def relS (scope sc : Scope) : Scope :=
  { scope with names := scope.names.map fun (n, k) => if (k == .free && sc.kind == .function && sc.names.lookup n == some .cell) then (n, .cell) else (n, k) }

def cloFrom (cells : List (Str × Addr)) : List (Str × NameKind) → List (Str × Addr) → List (Str × Addr)
  | [], acc => acc
  | (n, k) :: r, acc => if k == .free then cloFrom cells r ((n, (cells.lookup n).getD 0) :: acc) else cloFrom cells r acc

theorem closure_loop (env : Env) (f : Str × NameKind → List (Str × Addr) → Sem (ForInStep (List (Str × Addr))))
    (hf : ∀ n k c, f (n, k) c = if k == .free then (do let a ← cellOf env n; pure (.yield ((n, a) :: c))) else pure (.yield c)) :
    ∀ (names : List (Str × NameKind)) (acc : List (Str × Addr)), (∀ y ∈ names, y.2 = .free → ∃ c, env.cells.lookup y.1 = some c) → forIn names acc f = pure (cloFrom env.cells names acc)
  | [], acc, _ => by rw [List.forIn_nil]; rfl
  | (n, k) :: r, acc, h => by
    rw [List.forIn_cons, hf]
    have ih := fun acc => closure_loop env f hf r acc fun y hy => h y (List.mem_cons_of_mem _ hy)
    unfold cloFrom
    by_cases hk : (k == NameKind.free) = true
    · rw [if_pos hk, if_pos hk]
      obtain ⟨c, hc⟩ := h (n, k) List.mem_cons_self (by simpa using hk)
      have e : cellOf env n = pure c := by unfold cellOf; rw [hc]
      rw [e]
      have e2 : (env.cells.lookup n).getD 0 = c := by rw [hc]; rfl
      rw [e2]
      exact ih _
    · rw [if_neg hk, if_neg hk]
      exact ih _
theorem closure_ok {scope : Scope} {env : Env} (h : ∀ y ∈ scope.names, y.2 = .free → ∃ c, env.cells.lookup y.1 = some c) : closureFor scope env = pure (cloFrom env.cells scope.names []) := by
  simp only [closureFor]
  rw [closure_loop env _ (fun n k c => rfl) scope.names [] h]
  rfl

theorem mem_lookup {α : Type} : ∀ {l : List (Str × α)} {n : Str} {c : α}, (n, c) ∈ l → ∃ c', l.lookup n = some c'
  | (k, v) :: r, n, c, h => by
    rw [List.lookup_cons]
    cases hb : n == k with
    | true => exact ⟨_, rfl⟩
    | false =>
      rcases List.mem_cons.mp h with e | h
      · cases e; simp at hb
      · exact mem_lookup h

theorem cloFrom_mem {cells : List (Str × Addr)} : ∀ {names : List (Str × NameKind)} {acc : List (Str × Addr)} {n : Str} {c : Addr}, (n, c) ∈ cloFrom cells names acc → (n, c) ∈ acc ∨ ((n, .free) ∈ names ∧ c = (cells.lookup n).getD 0)
  | [], _, _, _, h => .inl h
  | (m, k) :: r, acc, n, c, h => by
    unfold cloFrom at h
    split at h
    · rename_i hk
      have hk : k = .free := by simpa using hk
      rcases cloFrom_mem h with h | ⟨h1, h2⟩
      · rcases List.mem_cons.mp h with e | h
        · cases e; exact .inr ⟨hk ▸ List.mem_cons_self, rfl⟩
        · exact .inl h
      · exact .inr ⟨List.mem_cons_of_mem _ h1, h2⟩
    · rcases cloFrom_mem h with h | ⟨h1, h2⟩
      · exact .inl h
      · exact .inr ⟨List.mem_cons_of_mem _ h1, h2⟩
theorem cloFrom_acc {cells : List (Str × Addr)} : ∀ {names : List (Str × NameKind)} {acc : List (Str × Addr)} {p : Str × Addr}, p ∈ acc → p ∈ cloFrom cells names acc
  | [], _, _, h => h
  | (m, k) :: r, acc, p, h => by
    unfold cloFrom
    split
    · exact cloFrom_acc (List.mem_cons_of_mem _ h)
    · exact cloFrom_acc h
theorem cloFrom_has {cells : List (Str × Addr)} : ∀ {names : List (Str × NameKind)} {acc : List (Str × Addr)} {n : Str}, (n, .free) ∈ names → (n, (cells.lookup n).getD 0) ∈ cloFrom cells names acc
  | (m, k) :: r, acc, n, h => by
    unfold cloFrom
    rcases List.mem_cons.mp h with e | h
    · cases e
      exact cloFrom_acc List.mem_cons_self
    · split
      · exact cloFrom_has h
      · exact cloFrom_has h

theorem cells_mem : ∀ {names : List (Str × NameKind)} {h : Heap} {acc : List (Str × Addr)} {x : Str} {c : Addr}, (x, c) ∈ cellsFrom h.objs.size names acc →
    (x, c) ∈ acc ∨ ((x, .cell) ∈ names ∧ h.objs.size ≤ c ∧ CellAt (pushCells h names) c none)
  | [], _, _, _, _, h => .inl h
  | (n, k) :: r, h, acc, x, c, hm => by
    unfold cellsFrom at hm
    unfold pushCells
    split at hm
    · rename_i hk
      rw [if_pos hk]
      have hk : k = .cell := by simpa using hk
      rw [← Heap.size_push h { cls := .type "cell", data := .cell none }] at hm
      rcases cells_mem hm with hm | ⟨h1, h2, h3⟩
      · rcases List.mem_cons.mp hm with e | hm
        · cases e
          exact .inr ⟨hk ▸ List.mem_cons_self, Nat.le_refl _, _, pushCells_keeps r _ _ _ (Heap.get?_push_size _ rfl), rfl⟩
        · exact .inl hm
      · rw [Heap.size_push] at h2
        exact .inr ⟨List.mem_cons_of_mem _ h1, Nat.le_of_succ_le h2, h3⟩
    · rename_i hk
      rw [if_neg hk]
      rcases cells_mem hm with hm | ⟨h1, h2, h3⟩
      · exact .inl hm
      · exact .inr ⟨List.mem_cons_of_mem _ h1, h2, h3⟩
theorem cells_acc : ∀ {names : List (Str × NameKind)} {n : Nat} {acc : List (Str × Addr)} {p : Str × Addr}, p ∈ acc → p ∈ cellsFrom n names acc
  | [], _, _, _, h => h
  | (m, k) :: r, n, acc, p, h => by
    unfold cellsFrom
    split
    · exact cells_acc (List.mem_cons_of_mem _ h)
    · exact cells_acc h
theorem cells_has : ∀ {names : List (Str × NameKind)} {n : Nat} {acc : List (Str × Addr)} {x : Str}, (x, .cell) ∈ names → ∃ c, (x, c) ∈ cellsFrom n names acc
  | (m, k) :: r, n, acc, x, h => by
    unfold cellsFrom
    rcases List.mem_cons.mp h with e | h
    · cases e
      exact ⟨n, cells_acc List.mem_cons_self⟩
    · split
      · exact cells_has h
      · exact cells_has h
theorem cells_inj : ∀ {names : List (Str × NameKind)} {h : Heap} {acc : List (Str × Addr)} {x y : Str} {c : Addr}, (∀ p ∈ acc, p.2 < h.objs.size) → (∀ x y c, (x, c) ∈ acc → (y, c) ∈ acc → x = y) →
    (x, c) ∈ cellsFrom h.objs.size names acc → (y, c) ∈ cellsFrom h.objs.size names acc → x = y
  | [], _, _, _, _, _, _, hi, h1, h2 => hi _ _ _ h1 h2
  | (n, k) :: r, h, acc, x, y, c, hl, hi, h1, h2 => by
    unfold cellsFrom at h1 h2
    split at h1
    · rename_i hk
      rw [if_pos hk] at h2
      rw [← Heap.size_push h { cls := .type "cell", data := .cell none }] at h1 h2
      refine cells_inj (h := h.push _) (fun p hp => ?_) (fun x y c a b => ?_) h1 h2
      · rw [Heap.size_push]
        rcases List.mem_cons.mp hp with rfl | hp
        · exact Nat.lt_succ_self _
        · exact Nat.lt_succ_of_lt (hl p hp)
      · rcases List.mem_cons.mp a with e | a <;> rcases List.mem_cons.mp b with e' | b
        · cases e; cases e'; rfl
        · cases e; exact absurd (hl _ b) (Nat.lt_irrefl _)
        · cases e'; exact absurd (hl _ a) (Nat.lt_irrefl _)
        · exact hi _ _ _ a b
    · rename_i hk
      rw [if_neg hk] at h2
      exact cells_inj hl hi h1 h2

theorem newEnv_comp {M : Model} {A : Around} {E : Value → Shared → Prop} {s : Shared} {scope : Scope} {globals : Addr} {closure : List (Str × Addr)} {qual : Str} {func : Option Addr} {code : Value} {around : Env} {builtins : Addr} {Q : Env → Shared → Prop}
    (h : Q (newEnv scope s.heap.objs.size globals (cellsFrom (s.heap.objs.size + 1) scope.names closure) qual func code (some around) builtins)
      { s with heap := pushCells (s.heap.push { cls := .type "dict", data := .dict #[] }) scope.names }) :
    wpAny M A (newFunctionEnv scope globals closure [] qual func code (some around) builtins) Q E s := by
  simp only [newFunctionEnv, Option.isSome_some, if_true]
  refine wpAny_bind (wpAny_alloc ?_)
  refine wpAny_bind (wpAny_layCells _ (fun n k c => rfl) scope.names closure _ _ ?_)
  rw [show ({ s with heap := s.heap.push { cls := .type "dict", data := .dict #[] } } : Shared).heap.objs.size = s.heap.objs.size + 1 from Heap.size_push ..]
  rw [List.forIn_nil]
  exact wpAny_bind (wpAny_pure (wpAny_pure h))

/-- every name of the written scope, in the scope that runs -/
theorem lookup_relS {sc : Scope} : ∀ {names : List (Str × NameKind)} {x : Str} {k : NameKind},
    (names.map fun (n, k) => if (k == NameKind.free && sc.kind == .function && sc.names.lookup n == some .cell) then (n, NameKind.cell) else (n, k)).lookup x = some k →
    ∃ k', names.lookup x = some k' ∧ (k = k' ∨ (k' = .free ∧ k = .cell))
  | [], _, _, h => by simp at h
  | (n, k₀) :: r, x, k, h => by
    have ih := @lookup_relS sc r x k
    have h' : List.lookup x ((if (k₀ == NameKind.free && sc.kind == .function && sc.names.lookup n == some .cell) = true then (n, NameKind.cell) else (n, k₀)) :: (r.map _)) = some k := h
    cases hx : x == n with
    | true =>
      simp only [List.lookup_cons, hx]
      by_cases hc : (k₀ == NameKind.free && sc.kind == .function && sc.names.lookup n == some .cell) = true
      · rw [if_pos hc] at h'
        simp only [List.lookup_cons, hx] at h'
        cases h'
        simp only [Bool.and_eq_true, beq_iff_eq] at hc
        exact ⟨k₀, rfl, .inr ⟨hc.1.1, rfl⟩⟩
      · rw [if_neg hc] at h'
        simp only [List.lookup_cons, hx] at h'
        cases h'
        exact ⟨_, rfl, .inl rfl⟩
    | false =>
      simp only [List.lookup_cons, hx]
      by_cases hc : (k₀ == NameKind.free && sc.kind == .function && sc.names.lookup n == some .cell) = true
      · rw [if_pos hc] at h'
        simp only [List.lookup_cons, hx] at h'
        exact ih h'
      · rw [if_neg hc] at h'
        simp only [List.lookup_cons, hx] at h'
        exact ih h'
/-- the names of a comprehension's block: its own (with their places in N), or captured -/
structure BlkOk (N : List Str) (sc scope : Scope) (own : List (Str × Nat)) : Prop where
  kind : scope.kind = .function
  uniq : ∀ y ∈ scope.names, scope.names.lookup y.1 = some y.2
  ix : ∀ p ∈ own, N[p.2]? = some p.1
  free : ∀ y ∈ scope.names, y.2 = .free → sc.names.lookup y.1 = some .cell ∨ sc.names.lookup y.1 = some .free
  own : ∀ y ∈ scope.names, y.2 = .local ∨ y.2 = .cell → y.1 ∈ own.map (·.1) ∨ y.1 ∉ N
/-- the slots of the block's own names forgotten -/
def wipe (σ : St) : List Nat → St
  | [] => σ
  | v :: vs => (wipe σ vs).set v none
theorem wipe_length (σ : St) : ∀ vs : List Nat, (wipe σ vs).length = σ.length
  | [] => rfl
  | v :: vs => by unfold wipe; rw [List.length_set, wipe_length σ vs]
theorem wipe_some {σ : St} {i : Nat} {x : V} : ∀ {vs : List Nat}, (wipe σ vs)[i]? = some (some x) → σ[i]? = some (some x) ∧ i ∉ vs
  | [], h => ⟨h, by simp⟩
  | v :: vs, h => by
    unfold wipe at h
    by_cases hi : v = i
    · subst hi
      by_cases hv : v < (wipe σ vs).length
      · rw [List.getElem?_set_self hv] at h; cases h
      · rw [List.getElem?_eq_none (by simpa using hv)] at h; cases h
    · rw [List.getElem?_set_ne hi] at h
      obtain ⟨h1, h2⟩ := wipe_some h
      exact ⟨h1, by simp only [List.mem_cons, not_or]; exact ⟨fun e => hi e.symm, h2⟩⟩

/-- the context of a block that starts at s, its iterator's objects at fp -/
abbrev Cx.blk (X : Cx) (s : Shared) (H : Hp) (scope : Scope) (cenv : Env) (fp : List Addr) : Cx := { X with s_0 := s, H_0 := H, env := cenv, outer := X.stack, ex := fp, fn := fun x => scope.names.lookup x == some .cell, pn := [], xe := fun _ _ => False }
section
variable {X : Cx} {pins : List (Addr × Obj)} {σ : St} {H : Hp} {s : Shared}
theorem block_start {scope : Scope} {own : List (Str × Nat)} {fp : List Addr} (I : Inv X pins σ H s) (ok : BlkOk X.N X.env.scope scope own) (hN : X.N.Nodup) (hfp : ∀ b ∈ fp, FpOk X pins H b ∧ b < s.heap.objs.size) :
    Inv (X.blk s H scope (compEnvC scope (cellsFrom (s.heap.objs.size + 1) scope.names (cloFrom X.env.cells scope.names [])) s.heap.objs.size X.env) fp) [] (wipe σ (own.map (·.2))) H { s with heap := pushCells (s.heap.push { cls := .type "dict", data := .dict #[] }) scope.names } := by
  have hfree : ∀ y ∈ scope.names, y.2 = .free → ∃ c, X.env.cells.lookup y.1 = some c := fun y hy e => by
    rcases ok.free y hy e with k | k
    · exact I.ok.has _ (.inl k)
    · exact I.ok.has _ (.inr k)
  generalize hcenv : compEnvC scope (cellsFrom (s.heap.objs.size + 1) scope.names (cloFrom X.env.cells scope.names [])) s.heap.objs.size X.env = cenv
  have kp : ∀ b o, s.heap.get? b = some o → (pushCells (s.heap.push { cls := .type "dict", data := .dict #[] }) scope.names).get? b = some o := fun b o e => pushCells_keeps _ _ _ _ (Heap.get?_push_of_some _ e)
  have hL : cenv.locals = s.heap.objs.size := by rw [← hcenv]; rfl
  have hcl : cenv.cells = cellsFrom (s.heap.objs.size + 1) scope.names (cloFrom X.env.cells scope.names []) := by rw [← hcenv]; rfl
  have hsc : cenv.scope = relS scope X.env.scope := by rw [← hcenv]; rfl
  rw [← Heap.size_push s.heap { cls := .type "dict", data := .dict #[] }] at hcl
  have cm : ∀ {y c}, (y, c) ∈ cloFrom X.env.cells scope.names [] → X.env.cells.lookup y = some c ∧ c < s.heap.objs.size := fun {y c} hm => by
    rcases cloFrom_mem hm with hm | ⟨h1, rfl⟩
    · cases hm
    · obtain ⟨c, hc⟩ := hfree _ h1 rfl
      rw [hc]
      obtain ⟨w, z⟩ := I.cell _ _ hc
      exact ⟨rfl, z.lt⟩
  have mem : ∀ {y c}, cenv.cells.lookup y = some c → (X.env.cells.lookup y = some c ∧ c < s.heap.objs.size) ∨ (s.heap.objs.size + 1 ≤ c ∧ CellAt (pushCells (s.heap.push { cls := .type "dict", data := .dict #[] }) scope.names) c none) := fun {y c} e => by
    rw [hcl] at e
    rcases cells_mem (PySem.mem_of_lookup e) with hm | ⟨_, h2, h3⟩
    · exact .inl (cm hm)
    · rw [Heap.size_push] at h2; exact .inr ⟨h2, h3⟩
  have look : ∀ {y}, scope.names.lookup y = some .free → ∃ c, cenv.cells.lookup y = some c ∧ X.env.cells.lookup y = some c := fun {y} hl => by
    have hy : (y, NameKind.free) ∈ scope.names := PySem.mem_of_lookup hl
    obtain ⟨c', e'⟩ := mem_lookup (cells_acc (names := scope.names) (n := (s.heap.push { cls := .type "dict", data := .dict #[] }).objs.size) (cloFrom_has (cells := X.env.cells) (acc := []) hy))
    rw [← hcl] at e'
    refine ⟨c', e', ?_⟩
    rw [hcl] at e'
    rcases cells_mem (PySem.mem_of_lookup e') with hm | ⟨h1, _, _⟩
    · exact (cm hm).1
    · have := ok.uniq _ h1
      rw [hl] at this; cases this
  have okB : (X.blk s H scope cenv fp).Ok := by
    refine ⟨I.ok.mod, by show cenv.scope.kind = _; rw [hsc]; exact ok.kind, by show cenv.globals = _; rw [← hcenv]; exact I.ok.glob, by show cenv.builtins = _; rw [← hcenv]; exact I.ok.blt, by show s.heap.objs.size ≤ cenv.locals; rw [hL]; exact Nat.le_refl _,
      fun y z c e1 e2 => ?_, fun y hy => ?_, fun y c z e => ?_, I.ok.hd, I.ok.frames, .inl rfl, fun b hb => ⟨?_, fun y c e z => ?_⟩, I.bs, Nat.le_trans I.ok.bsz I.sz, fun b o e hb => ?_, fun b hb z => ?_, I.stack, I.stkFree⟩
    · have e1 : cenv.cells.lookup y = some c := e1
      have e2 : cenv.cells.lookup z = some c := e2
      rw [hcl] at e1 e2
      refine cells_inj (fun p hp => ?_) (fun y z c a b => I.ok.inj y z c (cm a).1 (cm b).1) (PySem.mem_of_lookup e1) (PySem.mem_of_lookup e2)
      rw [Heap.size_push]
      exact Nat.lt_succ_of_lt (cm (y := p.1) (c := p.2) hp).2
    · show ∃ c, cenv.cells.lookup y = some c
      have key : ∀ k, cenv.kindOf y = some k → (k = .cell ∨ k = .free) → ∃ c, cenv.cells.lookup y = some c := fun k hk hk' => by
        unfold Env.kindOf at hk
        rw [hsc] at hk
        obtain ⟨k', e, r⟩ := lookup_relS hk
        have : k' = .cell ∨ k' = .free := by
          rcases r with rfl | ⟨rfl, _⟩
          · exact hk'
          · exact .inr rfl
        rcases this with rfl | rfl
        · obtain ⟨c, hm⟩ := cells_has (n := (s.heap.push { cls := .type "dict", data := .dict #[] }).objs.size) (acc := cloFrom X.env.cells scope.names []) (PySem.mem_of_lookup e)
          obtain ⟨c', e'⟩ := mem_lookup hm
          exact ⟨c', by rw [hcl]; exact e'⟩
        · obtain ⟨c, h1, _⟩ := look e
          exact ⟨c, h1⟩
      rcases hy with hy | hy
      · exact key _ hy (.inl rfl)
      · exact key _ hy (.inr rfl)
    · have z : (scope.names.lookup y == some NameKind.cell) = true := z
      have z : scope.names.lookup y = some .cell := by simpa using z
      have e : cenv.cells.lookup y = some c := e
      rw [hcl] at e
      rcases cells_mem (PySem.mem_of_lookup e) with hm | ⟨_, h2, _⟩
      · rcases cloFrom_mem hm with hm | ⟨h1, _⟩
        · cases hm
        · have q := ok.uniq _ h1
          rw [z] at q; cases q
      · rw [Heap.size_push] at h2
        exact Nat.le_of_succ_le h2
    · show b ≠ cenv.locals
      rw [hL]; exact Nat.ne_of_lt (hfp b hb).2
    · have e : cenv.cells.lookup y = some c := e
      rcases mem e with ⟨h1, _⟩ | ⟨h1, _⟩
      · exact (hfp b hb).1.2.2.2.2.1 y c h1 z
      · have h2 : s.heap.objs.size + 1 ≤ b := by rw [← z]; exact h1
        exact absurd (Nat.lt_of_lt_of_le (hfp b hb).2 (Nat.le_of_succ_le h2)) (Nat.lt_irrefl _)
    · rcases (hfp b hb).1.2.2.2.1 with z | z
      · exact I.ok.noex b o e z
      · exact absurd (Nat.lt_of_lt_of_le (Heap.lt_size e) (Nat.le_trans I.ok.bsz z)) (Nat.lt_irrefl _)
    · rcases List.mem_cons.mp (I.stkSub b z) with z | z
      · exact (hfp b hb).1.2.1 z
      · exact (hfp b hb).1.2.2.1 z
  refine ⟨okB, rfl, I.bare, Un.kept kp, ⟨fun _ => none, ?_, fun i y av e1 e2 e3 => ?_⟩, fun y c e => ?_, ?_, fun y c e => ?_, fun p hp => ?_, I.hok.kept kp, by rw [wipe_length]; exact I.len⟩
  · show Heap.Ns _ cenv.locals _
    rw [hL]
    exact Heap.Ns.keeps (Heap.Ns.new ..) fun b o e => pushCells_keeps _ _ _ _ e
  · obtain ⟨e2, hne⟩ := wipe_some e2
    have hfr : scope.names.lookup y = some .free ∧ (cenv.kindOf y = some .cell ∨ cenv.kindOf y = some .free) := by
      have key : ∀ k, cenv.scope.names.lookup y = some k → k = .local ∨ k = .cell ∨ k = .free → scope.names.lookup y = some .free ∧ (cenv.kindOf y = some .cell ∨ cenv.kindOf y = some .free) := fun k hk hk' => by
        have hk0 := hk
        rw [hsc] at hk
        obtain ⟨k', e, r⟩ := lookup_relS hk
        have no : ¬ (k' = .local ∨ k' = .cell) := fun hh => by
          rcases ok.own _ (PySem.mem_of_lookup e) hh with e' | e'
          · obtain ⟨p, hp, hpy⟩ := List.mem_map.mp e'
            have e3 := ok.ix p hp
            have : p.1 = y := hpy
            rw [this] at e3
            exact hne (List.mem_map.mpr ⟨p, hp, nodup_ix hN e3 e1⟩)
          · exact e' (List.mem_of_getElem? e1)
        rcases r with rfl | ⟨rfl, rfl⟩
        · rcases hk' with rfl | rfl | rfl
          · exact absurd (.inl rfl) no
          · exact absurd (.inr rfl) no
          · exact ⟨e, .inr hk0⟩
        · exact ⟨e, .inl hk0⟩
      have e3 : Vis cenv.scope y := e3
      rcases e3 with e3 | e3 | e3
      · exact key _ e3 (.inl rfl)
      · exact key _ e3 (.inr (.inl rfl))
      · exact key _ e3 (.inr (.inr rfl))
    obtain ⟨m, hn, hl⟩ := I.loc
    have hvis : Vis X.env.scope y := (ok.free _ (PySem.mem_of_lookup hfr.1) rfl).elim (fun k => .inr (.inl k)) (fun k => .inr (.inr k))
    obtain ⟨w, r, q⟩ := hl i y av e1 e2 hvis
    refine ⟨w, r, .inr ⟨hfr.2, ?_⟩⟩
    obtain ⟨c, h1, h2⟩ := look hfr.1
    rcases q with ⟨k, _⟩ | ⟨_, c', e', z⟩
    · have k : X.env.scope.names.lookup y = some .local := k
      rcases ok.free _ (PySem.mem_of_lookup hfr.1) rfl with k' | k' <;> rw [show X.env.scope.names.lookup y = _ from k'] at k <;> cases k
    · rw [h2] at e'; cases e'
      exact ⟨c, h1, z.keeps kp⟩
  · have e : cenv.cells.lookup y = some c := e
    rcases mem e with ⟨h1, _⟩ | ⟨_, z⟩
    · obtain ⟨w, z⟩ := I.cell y c h1
      exact ⟨w, z.keeps kp⟩
    · exact ⟨_, z⟩
  · show H cenv.locals = none
    rw [hL]; exact I.hok.fresh (Nat.le_refl _)
  · have e : cenv.cells.lookup y = some c := e
    rcases mem e with ⟨h1, _⟩ | ⟨h1, _⟩
    · exact I.freeC y c h1
    · exact I.hok.fresh (Nat.le_of_succ_le h1)
  · exact absurd (show p ∈ ([] : List (Addr × Obj)) ++ [] from hp) (by simp)

/-- an item appended to a tracked list -/
theorem app_ok {E : Value → Shared → Prop} {D : Addr} {xs : List V} {y : V} {v : Value} {Q : Value → Shared → Prop} (I : Inv X pins σ H s) (hD : H D = some (.lst xs)) (hz : xs.length < sizeLine) (r : RelV y v)
    (h : ∀ s', Inv X pins σ (upd H D (.lst (xs ++ [y]))) s' → Q .none s') : wpAny (model X.prog X.w) X.A (call (.builtin "list.append") [.ref D, v]) Q E s := by
  obtain ⟨hz', its, n, ri, e⟩ := I.hok D _ hD
  have hl := ri.length
  refine append_at (hsz := by rw [List.size_toArray]; omega) e fun h' sb ho' => ?_
  refine h { s with heap := h' } (I.write (t' := s.toks) (by rw [hD]; trivial) (.inl rfl) (fun b u hb q => (sb.2 b hb).trans q) ⟨_, ho'⟩ ⟨by rw [List.length_append]; exact hz, its ++ [v], n + 1, ri.append (.cons r .nil), ?_⟩)
  rw [ho']
  simp

/-- a clause's tests -/
def PTs (X : Cx) (ifs : List Expr) (t : TT) : Prop :=
  ∀ (pins : List (Addr × Obj)) (s : Shared) (σ : St) (H : Hp) (Q : Bool → Hp → Prop), Inv X pins σ H s → t σ H Q →
    wpAny (model X.prog X.w) X.A (forIn ifs true fun c r => if r = true then do let ok ← isTrue c X.env (eval c X.env); pure (ForInStep.yield ok) else pure (ForInStep.yield r)) (TP X pins σ Q) X.xe s
def tYes : TT := fun _ H Q => Q true H
theorem pts_nil : PTs X [] tYes := fun _ _ _ H _ I h => wpAny_tests_nil ⟨H, I, h⟩
end

theorem thnF {α : Type} {t : Sem α} {Q Q' : α → Shared → Prop} {M : Model} {A : Around} {E : Value → Shared → Prop} {s : Shared} (h : wpAny M A t Q (fun _ _ => False) s) (hQ : ∀ a s, Q a s → Q' a s) : wpAny M A t Q' E s := wpAny_mono h hQ fun _ _ z => False.elim z

/-- the loop of a list comprehension's block, the target of any form (codeAny_compLoop_tests asks a target that no tuple goes to; statement and proof follow it, PyProof/CompMap.lean:41-61, with the step letOwnedTupleGo kept) -/
theorem compLoop_any {prog : Program} {w : World} {A : Around} {R : Result → Shared → Prop} {s : Shared} {elt target iter : Expr} {ifs : List Expr} {scope : Scope} {pos : Pos} {it acc : Value} {env : Env} (I : Nat → Shared → Prop)
    (turn : ∀ n s, I n s → wpAny (model prog w) A (pyNext it) (fun r s₁ => match r with
      | none => R (.ok .next) s₁
      | some v => wpAny (model prog w) A (letOwnedTupleGo target it v) (fun _ s₁' => wpAny (model prog w) A (assign target env v) (fun _ s₂ =>
          wpAny (model prog w) A (forIn ifs true fun c r => if r = true then do let ok ← isTrue c env (eval c env); pure (ForInStep.yield ok) else pure (ForInStep.yield r)) (fun ok s₃ =>
            if ok = true then wpAny (model prog w) A (eval elt env) (fun x s₄ =>
              wpAny (model prog w) A (call (.builtin "list.append") [acc, x]) (fun _ s₅ => ∃ m, m < n ∧ I m s₅) (notedBy (model prog w) A env fun e s' => R (.error e) s') s₄) (notedBy (model prog w) A env fun e s' => R (.error e) s') s₃
            else ∃ m, m < n ∧ I m s₃) (notedBy (model prog w) A env fun e s' => R (.error e) s') s₂) (notedBy (model prog w) A env fun e s' => R (.error e) s') s₁') (notedBy (model prog w) A env fun e s' => R (.error e) s') s₁) (notedBy (model prog w) A env fun e s' => R (.error e) s') s)
    (n : Nat) (h : I n s) :
    codeAny (model prog w) A (.compLoop (.ListComp elt [⟨target, iter, ifs, 0⟩] scope pos) 0 it acc env) R s := by
  refine codeAny_loop rfl I (fun n s hI => ?_) n h
  show wpAny _ A ((compTurn (.ListComp elt [⟨target, iter, ifs, 0⟩] scope pos) 0 it acc env).onRaise (fun x => do noteFrame x env; theTreesLotGoes x)) _ _ s
  refine wpAny_noted ?_
  rw [compTurn_list]
  refine wpAny_bind (wpAny_standAt (wpAny_bind (wpAny_mono (turn n s hI) (fun r s₁ h₁ => ?_) fun _ _ h' => h')))
  cases r with
  | none => exact wpAny_pure h₁
  | some v =>
    refine wpAny_bind (wpAny_mono h₁ (fun _ s₁' h₁' => ?_) fun _ _ h' => h')
    refine wpAny_bind (wpAny_mono h₁' (fun _ s₂ h₂ => wpAny_bind (wpAny_mono h₂ (fun ok s₃ h₃ => ?_) fun _ _ h' => h')) fun _ _ h' => h')
    cases ok with
    | false => exact wpAny_pure ⟨rfl, h₃⟩
    | true =>
      exact wpAny_bind (wpAny_bind (wpAny_mono h₃ (fun x s₄ h₄ => wpAny_bind (wpAny_mono h₄ (fun _ s₅ h₅ => wpAny_pure (wpAny_pure ⟨rfl, h₅⟩)) fun _ _ h' => h')) fun _ _ h' => h'))

section
variable {X : Cx}
/-- [elt for target in iter if ..]: D the new list; W by the turn and a measure, Nx what a turn is to reach -/
def tLc (wi : TI) (g : TG) (tt : TT) (te : TE) (vs : List Nat) : TE := fun σ H Q => wi σ H fun J H1 => ∀ D, H1 D = none → ∃ W : Nat → Nat → Hp → Prop, (∃ m, W 0 m (upd H1 D (.lst []))) ∧ ∀ i m H, W i m H →
  (J.stop i H ∧ Q (.ref D) H) ∨ (J.go i H ∧ ∃ Nx : Hp → Prop, (∀ H', Nx H' → ∃ m', m' < m ∧ W (i + 1) m' H') ∧ ∀ x H', J.yld i H x H' → g x (wipe σ vs) H' fun σ2 H2 => wipe σ2 vs = wipe σ vs ∧ tt σ2 H2 fun b H3 =>
    if b = true then te σ2 H3 fun y H4 => ∃ acc, H4 D = some (.lst acc) ∧ acc.length < sizeLine ∧ Nx (upd H4 D (.lst (acc ++ [y]))) else Nx H3)
theorem lc_core {pins : List (Addr × Obj)} {s : Shared} {σ : St} {H : Hp} {Q : VK} {elt tg iter : Expr} {ifs : List Expr} {scope : Scope} {own : List (Str × Nat)} {pos pos' : Pos} {wi : TI} {g : TG} {tt : TT} {te : TE} {use : Option (Value → Sem Unit)} {Qf : Value → Shared → Prop}
    (hc : X.calm = true) (hN : X.N.Nodup) (I : Inv X pins σ H s) (hi : PI X tg iter wi) (ok : BlkOk X.N X.env.scope scope own)
    (hg : ∀ (s : Shared) (H : Hp) (C : Addr) (cl : List (Str × Addr)) (fp : List Addr), PG (X.blk s H scope (compEnvC scope cl C X.env) fp) tg g) (ht : ∀ (s : Shared) (H : Hp) (C : Addr) (cl : List (Str × Addr)) (fp : List Addr), PTs (X.blk s H scope (compEnvC scope cl C X.env) fp) ifs tt)
    (he : ∀ (s : Shared) (H : Hp) (C : Addr) (cl : List (Str × Addr)) (fp : List Addr), PE (X.blk s H scope (compEnvC scope cl C X.env) fp) elt te) (hs : ∀ x, foldedSetIterable iter X.env x = pure x)
    (h : tLc wi g tt te (own.map (·.2)) σ H Q)
    (hRR : ∀ D C s' m H', Inv X pins σ H' s' → Q (.ref D) H' → s'.heap.Ns C m → FpOk X pins H' C → compPost (model X.prog X.w) X.A X.xe use Qf (.ref D) C (.ok .next) s') :
    wpAny (model X.prog X.w) X.A (comprehension (.ListComp elt [⟨tg, iter, ifs, 0⟩] scope pos) scope X.env pos' (newList []) false (eval iter X.env) use) Qf X.xe s := by
  have hfree : ∀ y ∈ scope.names, y.2 = .free → ∃ c, X.env.cells.lookup y.1 = some c := fun y hy e => by
    rcases ok.free y hy e with k | k
    · exact I.ok.has _ (.inl k)
    · exact I.ok.has _ (.inr k)
  refine wpAny_comprehension_free (use := use) rfl hs (closure_ok hfree) ok.kind (fun y hy e => by rw [ok.uniq y hy, e])
    (thn (hi pins s σ H _ I h) fun xv s1 hx => thn hx fun itv s2 h2 => ?_)
  obtain ⟨it, fp, tn, J, H2, e, I2, T, st2, f2, q⟩ := h2
  subst e
  refine wpAny_newObj_type (newEnv_comp ?_) (by show 0 ≤ sizeLine; decide)
  generalize hD : s2.heap.objs.size = D
  have hDn : H2 D = none := I2.hok.fresh (Nat.le_of_eq hD)
  obtain ⟨W, ⟨m0, w0⟩, turn⟩ := q D hDn
  -- the new list
  generalize hs3 : ({ s2 with heap := s2.heap.push { cls := .type "list", data := .seq ([] : List Value).toArray } } : Shared) = s3
  have I3 : Inv X pins σ (upd H2 D (.lst [])) s3 := by
    rw [← hs3]
    refine I2.laid (t' := s2.toks) (fun b o e => Heap.get?_push_of_some _ e) (Nat.le_of_eq hD) ⟨Nat.zero_le _, [], 0, .nil, ?_⟩
    rw [← hD]
    exact Heap.get?_push_size _ rfl
  have h3 : s3.heap = s2.heap.push { cls := .type "list", data := .seq ([] : List Value).toArray } := by rw [← hs3]
  have sz : ∀ b ∈ fp, b < s2.heap.objs.size := fun b hb => by
    obtain ⟨o, e, _⟩ := T.obj _ _ st2 b hb
    exact Heap.lt_size e
  have f3 : ∀ b ∈ fp, FpOk X pins (upd H2 D (.lst [])) b ∧ b < s3.heap.objs.size := fun b hb => by
    have hlt := sz b hb
    refine ⟨⟨?_, (f2 b hb).2⟩, by rw [h3, Heap.size_push]; exact Nat.lt_succ_of_lt hlt⟩
    rw [upd_ne (by rw [← hD]; exact Nat.ne_of_lt hlt)]
    exact (f2 b hb).1
  have st3 : tn 0 s3.heap := T.keep _ _ _ st2 fun b _ o e => by rw [h3]; exact Heap.get?_push_of_some _ e
  have I4 := block_start I3 ok hN f3
  have pg := hg s3 (upd H2 D (.lst [])) s3.heap.objs.size (cellsFrom (s3.heap.objs.size + 1) scope.names (cloFrom X.env.cells scope.names [])) fp
  have pt := ht s3 (upd H2 D (.lst [])) s3.heap.objs.size (cellsFrom (s3.heap.objs.size + 1) scope.names (cloFrom X.env.cells scope.names [])) fp
  have pe := he s3 (upd H2 D (.lst [])) s3.heap.objs.size (cellsFrom (s3.heap.objs.size + 1) scope.names (cloFrom X.env.cells scope.names [])) fp
  show codeAny _ _ (.compStart (.ListComp elt [⟨tg, iter, ifs, 0⟩] scope pos) 0 (.ref it) (.ref D) (compEnvC scope (cellsFrom (s3.heap.objs.size + 1) scope.names (cloFrom X.env.cells scope.names [])) s3.heap.objs.size X.env)) (compPost (model X.prog X.w) X.A X.xe use Qf (.ref D) s3.heap.objs.size) { s3 with heap := pushCells (s3.heap.push { cls := .type "dict", data := .dict #[] }) scope.names }
  have nfp : ∀ b ∈ fp, (upd H2 D (.lst [])) b = none := fun b hb => (f3 b hb).1.1
  generalize hce : compEnvC scope (cellsFrom (s3.heap.objs.size + 1) scope.names (cloFrom X.env.cells scope.names [])) s3.heap.objs.size X.env = ce at I4 pg pt pe ⊢
  have cL : ce.locals = s3.heap.objs.size := by subst hce; rfl
  generalize hH3 : upd H2 D (.lst []) = H3 at I3 I4 pg pt pe w0 nfp f3
  generalize hs4 : ({ s3 with heap := pushCells (s3.heap.push { cls := .type "dict", data := .dict #[] }) scope.names } : Shared) = s4 at I4 ⊢
  have st4 : tn 0 s4.heap := T.keep _ _ _ st3 fun b _ o e => by rw [← hs4]; exact pushCells_keeps _ _ _ _ (Heap.get?_push_of_some _ e)
  have stat : ∀ {σ' : St} {H' : Hp} {s' : Shared}, Inv (X.blk s3 H3 scope ce fp) [] σ' H' s' → (∀ b ∈ fp, H' b = none) → ∀ b ∈ fp, FpOk (X.blk s3 H3 scope ce fp) [] H' b := fun {σ' H' s'} I' hn b hb =>
    ⟨hn b hb, (I'.ok.exf b hb).1, I'.ok.exfs b hb, .inl hb, fun x c e => (I'.ok.exf b hb).2 x c e, fun p hp => absurd (show p ∈ ([] : List (Addr × Obj)) ++ [] from hp) (by simp)⟩
  have loop : codeAny (model X.prog X.w) X.A (.compLoop (.ListComp elt [⟨tg, iter, ifs, 0⟩] scope pos) 0 (.ref it) (.ref D) ce) (compPost (model X.prog X.w) X.A X.xe use Qf (.ref D) s3.heap.objs.size) s4 := by
    refine compLoop_any (fun n s' => ∃ i H', Inv (X.blk s3 H3 scope ce fp) [] (wipe σ (own.map (·.2))) H' s' ∧ tn i s'.heap ∧ (∀ b ∈ fp, H' b = none) ∧ W i n H') ?_ m0 ⟨0, H3, I4, st4, nfp, w0⟩
    rintro n s5 ⟨i, H5, I5, st5, n5, w5⟩
    rcases turn i n H5 w5 with ⟨stop, qq⟩ | ⟨go, Nx, hNx, step⟩
    · have td := T.done (X.blk s3 H3 scope ce fp) rfl rfl rfl hc i [] s5 _ H5 (fun _ _ => False) I5 (stat I5 n5) st5 stop
      refine thnF td fun r s6 ⟨hr, I6⟩ => ?_
      subst hr
      -- back in the def's context
      have I7 : Inv X pins σ H5 s6 := I3.call' (ch := fp) I6.os I6.base I6.hok I6.bare fun b hb => ⟨(f3 b hb).1.2.2.2.1, (f3 b hb).1.2.1, (f3 b hb).1.2.2.2.2.1, (f3 b hb).1.2.2.2.2.2⟩
      have nC : H5 s3.heap.objs.size = none := by
        have z : H5 ce.locals = none := I6.free
        rw [cL] at z
        exact z
      obtain ⟨m, hn, _⟩ := I6.loc
      have hn : s6.heap.Ns ce.locals m := hn
      rw [cL] at hn
      exact hRR D s3.heap.objs.size s6 m H5 I7 qq hn (I3.fpOk (Nat.le_refl _) nC)
    · have ti := T.item (X.blk s3 H3 scope ce fp) rfl rfl rfl hc i [] s5 _ H5 (fun _ _ => False) I5 (stat I5 n5) st5 go
      refine thnF ti fun r s6 ⟨u, hr, h6⟩ => ?_
      subst hr
      refine thnF h6 fun _ s7 ⟨x, H7, I7, r7, y7, st7, n7⟩ => ?_
      have I7' := I7.pinned (stat I7 n7) (T.obj _ _ st7)
      refine thnF (pg _ s7 _ H7 x u _ I7' r7 (step x H7 y7)) fun _ s8 ⟨σ8, H8, I8, hw8, q8⟩ => ?_
      refine thnF (pt _ s8 σ8 H8 _ I8 q8) fun b s9 ⟨H9, I9, q9⟩ => ?_
      -- the turn's end
      have fin : ∀ {s' : Shared} {H' : Hp}, Inv (X.blk s3 H3 scope ce fp) ([] ++ pinsAt fp s7.heap) σ8 H' s' → Nx H' → ∃ m, m < n ∧ ∃ i H', Inv (X.blk s3 H3 scope ce fp) [] (wipe σ (own.map (·.2))) H' s' ∧ tn i s'.heap ∧ (∀ b ∈ fp, H' b = none) ∧ W i m H' := fun {s' H'} I' nx => by
        obtain ⟨m', hm, w'⟩ := hNx H' nx
        have pin' : ∀ b ∈ fp, ∀ o, s7.heap.get? b = some o → s'.heap.get? b = some o ∧ H' b = none := fun b hb o e =>
          let z := I'.pin (b, o) (List.mem_append_right _ (List.mem_append_right _ (mem_pinsAt hb e)))
          ⟨z.1, z.2.1⟩
        have hl : (wipe σ (own.map (·.2))).length = σ8.length := by rw [← hw8, wipe_length]
        refine ⟨m', hm, i + 1, H', (I'.unpinned (pins := [])).weak hl (fun j v e => ?_), T.keep _ _ _ st7 fun b hb o e => (pin' b hb o e).1, fun b hb => ?_, w'⟩
        · rw [← hw8] at e
          exact (wipe_some e).1
        · obtain ⟨o, e, _⟩ := T.obj _ _ st7 b hb
          exact (pin' b hb o e).2
      cases b with
      | false =>
        simp only [Bool.false_eq_true, if_false] at q9 ⊢
        exact fin I9 q9
      | true =>
        simp only [if_true] at q9 ⊢
        refine thnF (pe _ s9 σ8 H9 _ I9 q9) fun z s10 ⟨yv, H10, I10, r10, acc, hD10, hz10, nx⟩ => ?_
        exact app_ok (X := X.blk s3 H3 scope ce fp) I10 hD10 hz10 r10 fun s11 I11 => fin I11 nx
  exact codeAny_compStart_list loop (T.self X.A 0 _ _ _ st4 loop)
/-- as a value -/
theorem pe_lc {elt tg iter : Expr} {ifs : List Expr} {scope : Scope} {own : List (Str × Nat)} {pos : Pos} {wi : TI} {g : TG} {tt : TT} {te : TE} (hc : X.calm = true) (hN : X.N.Nodup) (hi : PI X tg iter wi) (ok : BlkOk X.N X.env.scope scope own)
    (hg : ∀ (s : Shared) (H : Hp) (C : Addr) (cl : List (Str × Addr)) (fp : List Addr), PG (X.blk s H scope (compEnvC scope cl C X.env) fp) tg g) (ht : ∀ (s : Shared) (H : Hp) (C : Addr) (cl : List (Str × Addr)) (fp : List Addr), PTs (X.blk s H scope (compEnvC scope cl C X.env) fp) ifs tt)
    (he : ∀ (s : Shared) (H : Hp) (C : Addr) (cl : List (Str × Addr)) (fp : List Addr), PE (X.blk s H scope (compEnvC scope cl C X.env) fp) elt te) (hs : ∀ x, foldedSetIterable iter X.env x = pure x := by intro _; rfl) :
    PE X (.ListComp elt [⟨tg, iter, ifs, 0⟩] scope pos) (tLc wi g tt te (own.map (·.2))) := by
  intro pins s σ H Q I h
  rw [eval_ListComp]
  refine lc_core hc hN I hi ok hg ht he hs h fun D C s' m H' I' q hn f => ⟨m, hn, fun h'' sb => ?_⟩
  obtain ⟨f0, f1, f2, f3, f4, f5⟩ := f
  exact ⟨.ref D, H', I'.turned (t' := s'.toks) (fun b o hb e => (sb.2 b hb).trans e) f0 f1 f3 f4 f5, rfl, q⟩
/-- name = [..] on one line, the name a local -/
theorem ps_setLc {i : Nat} {y : Str} {py : Pos} {elt tg iter : Expr} {ifs : List Expr} {scope : Scope} {own : List (Str × Nat)} {pos spos : Pos} {wi : TI} {g : TG} {tt : TT} {te : TE} (hc : X.calm = true) (hN : X.N.Nodup) (hy : X.N[i]? = some y) (hyl : X.env.scope.names.lookup y = some .local)
    (hsw : swapsWith (.ListComp elt [⟨tg, iter, ifs, 0⟩] scope pos) (some (.Name y py)) spos.line X.env = pure true) (hi : PI X tg iter wi) (ok : BlkOk X.N X.env.scope scope own)
    (hg : ∀ (s : Shared) (H : Hp) (C : Addr) (cl : List (Str × Addr)) (fp : List Addr), PG (X.blk s H scope (compEnvC scope cl C X.env) fp) tg g) (ht : ∀ (s : Shared) (H : Hp) (C : Addr) (cl : List (Str × Addr)) (fp : List Addr), PTs (X.blk s H scope (compEnvC scope cl C X.env) fp) ifs tt)
    (he : ∀ (s : Shared) (H : Hp) (C : Addr) (cl : List (Str × Addr)) (fp : List Addr), PE (X.blk s H scope (compEnvC scope cl C X.env) fp) elt te) (hs : ∀ x, foldedSetIterable iter X.env x = pure x := by intro _; rfl) :
    PS X (.Assign [.Name y py] (.ListComp elt [⟨tg, iter, ifs, 0⟩] scope pos) spos) (tAsg (tLc wi g tt te (own.map (·.2))) (gName i)) := by
  intro pins s σ H D I h
  rw [exec_Assign_Name_used _ _ _ _ hsw]
  refine wpAny_bind (wpAny_standAt (wpAny_bind ?_))
  show wpAny _ X.A (do let _ ← comprehension (.ListComp elt [⟨tg, iter, ifs, 0⟩] scope pos) scope X.env (firstIterPos [⟨tg, iter, ifs, 0⟩] pos) (newList []) false (eval iter X.env) (some (assign (.Name y py) X.env))) _ _ s
  have h : tLc wi g tt te (own.map (·.2)) σ H (fun x H1 => gName i x σ H1 D.nx) := h
  refine wpAny_bind (thn (lc_core (Qf := fun _ s' => SP X pins D .next s') hc hN I hi ok hg ht he hs h fun L C s' m H' I' q hn f => ?_) fun _ s' hq => wpAny_pure (wpAny_pure hq))
  show wpAny _ _ (assign (.Name y py) X.env (.ref L)) _ _ _
  refine wpAny_assign_Name (store_ok2 (v := V.ref L) I' hN hy (.inl hyl) rfl (fun s2 I2 ⟨a, sb, ha⟩ => ?_) (.inr hyl))
  obtain ⟨f0, f1, f2, f3, f4, f5⟩ := f
  have haC : C ≠ a := by
    rcases ha with z | z
    · rw [z]; exact f1
    · exact fun e => f4 y a z e.symm
  refine ⟨m, hn.sameBut sb haC, fun h3 sb3 => ?_⟩
  exact ⟨_, H', I2.turned (t' := s2.toks) (fun b o hb e => (sb3.2 b hb).trans e) f0 f1 f3 f4 f5, q⟩
theorem sw_true {elt : Expr} {gs : List Comprehension} {scope : Scope} {pos py : Pos} {y : Str} {l : Nat} {env : Env} (hk : env.scope.kind = .function) (hy : env.scope.names.lookup y = some .local) (hl : (py.line == pos.line) = true)
    (ha : (scope.names.any fun (n, k) => n == y && (k == .local || k == .cell)) = false) : swapsWith (.ListComp elt gs scope pos) (some (.Name y py)) l env = pure true := by
  have ky : env.kindOf y = some .local := hy
  have hb : env.blockKind = .function := by unfold Env.blockKind; rw [hk]; rfl
  unfold swapsWith
  simp only [hb, ky, ha, Expr.pos, hl]
  rfl
end

/-! ### the forms one uses -/
/-- over a range: Pv by the turn and the heap (the new list at D within) -/
theorem lc_range {lo : Int} {n : Nat} {g : TG} {tt : TT} {te : TE} {vs : List Nat} {σ : St} {H1 : Hp} {D : Addr} {Qd : Hp → Prop} (Pv : Nat → Hp → Prop) (h0 : Pv 0 (upd H1 D (.lst [])))
    (hs : ∀ i H, i < n → Pv i H → g (.int (lo + i)) (wipe σ vs) H fun σ2 H2 => wipe σ2 vs = wipe σ vs ∧ tt σ2 H2 fun b H3 =>
      if b = true then te σ2 H3 fun y H4 => ∃ acc, H4 D = some (.lst acc) ∧ acc.length < sizeLine ∧ Pv (i + 1) (upd H4 D (.lst (acc ++ [y]))) else Pv (i + 1) H3) (hd : ∀ H, Pv n H → Qd H) :
    ∃ W : Nat → Nat → Hp → Prop, (∃ m, W 0 m (upd H1 D (.lst []))) ∧ ∀ i m H, W i m H →
      ((Itr lo n).stop i H ∧ Qd H) ∨ ((Itr lo n).go i H ∧ ∃ Nx : Hp → Prop, (∀ H', Nx H' → ∃ m', m' < m ∧ W (i + 1) m' H') ∧ ∀ x H', (Itr lo n).yld i H x H' → g x (wipe σ vs) H' fun σ2 H2 => wipe σ2 vs = wipe σ vs ∧ tt σ2 H2 fun b H3 =>
        if b = true then te σ2 H3 fun y H4 => ∃ acc, H4 D = some (.lst acc) ∧ acc.length < sizeLine ∧ Nx (upd H4 D (.lst (acc ++ [y]))) else Nx H3) := by
  refine ⟨fun i m H => m = n - i ∧ i ≤ n ∧ Pv i H, ⟨n, by simp, Nat.zero_le _, h0⟩, ?_⟩
  rintro i m H ⟨rfl, hi, p⟩
  by_cases hlt : i < n
  · refine .inr ⟨hlt, Pv (i + 1), fun H' p' => ⟨n - (i + 1), by omega, rfl, hlt, p'⟩, fun x H' y => ?_⟩
    obtain ⟨e, y⟩ := y
    subst e y
    exact hs i _ hlt p
  · have e : i = n := by omega
    subst e
    exact .inl ⟨Nat.le_refl _, hd H p⟩
/-- over a list that the block leaves as it is -/
theorem lc_list {K : PySem.W.Frag} {a : Addr} {xs : List V} {g : TG} {tt : TT} {te : TE} {vs : List Nat} {σ : St} {H1 : Hp} {D : Addr} {Qd : Hp → Prop} (Pv : Nat → Hp → Prop) (h0 : Pv 0 (upd H1 D (.lst []))) (hl : ∀ i H, i ≤ xs.length → Pv i H → SqL K H a xs)
    (hs : ∀ i x H, xs[i]? = some x → Pv i H → g x (wipe σ vs) H fun σ2 H2 => wipe σ2 vs = wipe σ vs ∧ tt σ2 H2 fun b H3 =>
      if b = true then te σ2 H3 fun y H4 => ∃ acc, H4 D = some (.lst acc) ∧ acc.length < sizeLine ∧ Pv (i + 1) (upd H4 D (.lst (acc ++ [y]))) else Pv (i + 1) H3) (hd : ∀ H, Pv xs.length H → Qd H) :
    ∃ W : Nat → Nat → Hp → Prop, (∃ m, W 0 m (upd H1 D (.lst []))) ∧ ∀ i m H, W i m H →
      ((Itl K a).stop i H ∧ Qd H) ∨ ((Itl K a).go i H ∧ ∃ Nx : Hp → Prop, (∀ H', Nx H' → ∃ m', m' < m ∧ W (i + 1) m' H') ∧ ∀ x H', (Itl K a).yld i H x H' → g x (wipe σ vs) H' fun σ2 H2 => wipe σ2 vs = wipe σ vs ∧ tt σ2 H2 fun b H3 =>
        if b = true then te σ2 H3 fun y H4 => ∃ acc, H4 D = some (.lst acc) ∧ acc.length < sizeLine ∧ Nx (upd H4 D (.lst (acc ++ [y]))) else Nx H3) := by
  refine ⟨fun i m H => m = xs.length - i ∧ i ≤ xs.length ∧ Pv i H, ⟨xs.length, by simp, Nat.zero_le _, h0⟩, ?_⟩
  rintro i m H ⟨rfl, hi, p⟩
  have q := hl i H hi p
  by_cases hlt : i < xs.length
  · refine .inr ⟨⟨xs, xs[i], q, by simp [hlt]⟩, Pv (i + 1), fun H' p' => ⟨xs.length - (i + 1), by omega, rfl, hlt, p'⟩, fun x H' y => ?_⟩
    obtain ⟨e, y⟩ := y
    subst e
    exact hs i x _ (y xs q) p
  · have e : i = xs.length := by omega
    subst e
    exact .inl ⟨⟨xs, q, Nat.le_refl _⟩, hd H p⟩
/-- over a tuple -/
theorem lc_tup {K : PySem.W.Frag} {a : Addr} {xs : List V} {g : TG} {tt : TT} {te : TE} {vs : List Nat} {σ : St} {H1 : Hp} {D : Addr} {Qd : Hp → Prop} (Pv : Nat → Hp → Prop) (h0 : Pv 0 (upd H1 D (.lst []))) (hl : ∀ i H, i ≤ xs.length → Pv i H → SqT K H a xs)
    (hs : ∀ i x H, xs[i]? = some x → Pv i H → g x (wipe σ vs) H fun σ2 H2 => wipe σ2 vs = wipe σ vs ∧ tt σ2 H2 fun b H3 =>
      if b = true then te σ2 H3 fun y H4 => ∃ acc, H4 D = some (.lst acc) ∧ acc.length < sizeLine ∧ Pv (i + 1) (upd H4 D (.lst (acc ++ [y]))) else Pv (i + 1) H3) (hd : ∀ H, Pv xs.length H → Qd H) :
    ∃ W : Nat → Nat → Hp → Prop, (∃ m, W 0 m (upd H1 D (.lst []))) ∧ ∀ i m H, W i m H →
      ((Itt K a).stop i H ∧ Qd H) ∨ ((Itt K a).go i H ∧ ∃ Nx : Hp → Prop, (∀ H', Nx H' → ∃ m', m' < m ∧ W (i + 1) m' H') ∧ ∀ x H', (Itt K a).yld i H x H' → g x (wipe σ vs) H' fun σ2 H2 => wipe σ2 vs = wipe σ vs ∧ tt σ2 H2 fun b H3 =>
        if b = true then te σ2 H3 fun y H4 => ∃ acc, H4 D = some (.lst acc) ∧ acc.length < sizeLine ∧ Nx (upd H4 D (.lst (acc ++ [y]))) else Nx H3) := by
  refine ⟨fun i m H => m = xs.length - i ∧ i ≤ xs.length ∧ Pv i H, ⟨xs.length, by simp, Nat.zero_le _, h0⟩, ?_⟩
  rintro i m H ⟨rfl, hi, p⟩
  have q := hl i H hi p
  by_cases hlt : i < xs.length
  · refine .inr ⟨⟨xs, xs[i], q, by simp [hlt]⟩, Pv (i + 1), fun H' p' => ⟨xs.length - (i + 1), by omega, rfl, hlt, p'⟩, fun x H' y => ?_⟩
    obtain ⟨e, y⟩ := y
    subst e
    exact hs i x _ (y xs q) p
  · have e : i = xs.length := by omega
    subst e
    exact .inl ⟨⟨xs, q, Nat.le_refl _⟩, hd H p⟩
def blkC (N : List Str) (sc scope : Scope) (own : List (Str × Nat)) : Bool :=
  (match scope.kind with | .function => true | _ => false) && (scope.names.all fun y => decide (scope.names.lookup y.1 = some y.2)) && (own.all fun p => decide (N[p.2]? = some p.1)) &&
    (scope.names.all fun y => match y.2 with
      | .free => (match sc.names.lookup y.1 with | some .cell => true | some .free => true | _ => false)
      | .local => decide (y.1 ∈ own.map (·.1)) || decide (y.1 ∉ N)
      | .cell => decide (y.1 ∈ own.map (·.1)) || decide (y.1 ∉ N)
      | _ => true)
theorem blkOk_by {N : List Str} {sc scope : Scope} {own : List (Str × Nat)} (h : blkC N sc scope own = true) : BlkOk N sc scope own := by
  unfold blkC at h
  simp only [Bool.and_eq_true, List.all_eq_true, decide_eq_true_eq] at h
  obtain ⟨⟨⟨h1, h2⟩, h3⟩, h4⟩ := h
  refine ⟨?_, h2, h3, fun y hy e => ?_, fun y hy e => ?_⟩
  · split at h1
    · assumption
    · cases h1
  · have q := h4 y hy
    simp only [e] at q
    split at q <;> first | exact .inl (by assumption) | exact .inr (by assumption) | cases q
  · have q := h4 y hy
    rcases e with e | e <;> (simp only [e, Bool.or_eq_true, decide_eq_true_eq] at q; exact q)
end L2

namespace L2
open PySem PySem.Spec PyProof.Rows

section
variable {prog : Program} {w : World} {A : Around} {R : Result → Shared → Prop} {s : Shared} {elt t0 i0 t1 i1 : Expr} {ifs0 ifs1 : List Expr} {scope : Scope} {pos : Pos} {it acc : Value} {env : Env}
end

section
variable {X : Cx}
end
end L2

namespace L2
open PySem PySem.Spec PyProof.Rows

/-! ### lists of pairs as tables -/
section
variable {κ : Type} [DecidableEq κ]
def valV (kvs : List (κ × V)) (k : κ) : Option V := (kvs.find? fun kv => decide (kv.1 = k)).map (·.2)
/-- in its place, or at the end -/
def putK (kvs : List (κ × V)) (k : κ) (v : V) : List (κ × V) :=
  if (kvs.any fun kv => decide (kv.1 = k)) = true then kvs.map (fun kv => if kv.1 = k then (kv.1, v) else kv) else kvs ++ [(k, v)]
def dropK (kvs : List (κ × V)) (k : κ) : List (κ × V) := kvs.filter fun kv => decide (kv.1 ≠ k)

theorem valV_pos {p : κ × V} {r : List (κ × V)} {k : κ} (e : p.1 = k) : valV (p :: r) k = some p.2 := by simp [valV, List.find?_cons, e]
theorem valV_neg {p : κ × V} {r : List (κ × V)} {k : κ} (e : ¬ p.1 = k) : valV (p :: r) k = valV r k := by simp [valV, List.find?_cons, e]
theorem valV_any (k : κ) : ∀ kvs : List (κ × V), (kvs.any fun kv => decide (kv.1 = k)) = (valV kvs k).isSome
  | [] => rfl
  | p :: r => by
    rw [List.any_cons]
    by_cases e : p.1 = k
    · simp only [valV_pos e, decide_eq_true e, Bool.true_or, Option.isSome_some]
    · rw [valV_neg e, decide_eq_false e, Bool.false_or]; exact valV_any k r
theorem length_putK (kvs : List (κ × V)) (k : κ) (v : V) : (putK kvs k v).length ≤ kvs.length + 1 := by
  unfold putK
  split
  · rw [List.length_map]; omega
  · rw [List.length_append, List.length_cons, List.length_nil]; omega
theorem putK_new {kvs : List (κ × V)} {k : κ} (v : V) (h : valV kvs k = none) : putK kvs k v = kvs ++ [(k, v)] := by
  unfold putK
  rw [valV_any, h]
  exact if_neg (by decide)

theorem RelO.isSome_eq {o : Option V} {u : Option Value} (r : RelO o u) : o.isSome = u.isSome := by
  cases o with
  | none => cases u with
    | none => rfl
    | some _ => exact (show False from r).elim
  | some _ => cases u with
    | none => exact (show False from r).elim
    | some _ => rfl
theorem RelO.getD {o : Option V} {u : Option Value} {d : V} {d' : Value} (r : RelO o u) (rd : RelV d d') : RelV (o.getD d) (u.getD d') := by
  cases o with
  | none => cases u with
    | none => exact rd
    | some _ => exact (show False from r).elim
  | some _ => cases u with
    | none => exact (show False from r).elim
    | some _ => exact r

/-- raw tables of the same keys -/
theorem KV.val {kvs : List (κ × V)} {vs : List (κ × Value)} (r : KV kvs vs) (k : κ) : RelO (valV kvs k) (valueAt vs k) := by
  unfold KV at r
  induction r with
  | nil => exact True.intro
  | @cons p q ps qs h t ih =>
    obtain ⟨h1, h2⟩ := h
    by_cases e : p.1 = k
    · have e' : q.1 = k := h1.symm.trans e
      have b : valueAt (q :: qs) k = some q.2 := by simp [valueAt, List.find?_cons, e']
      rw [valV_pos e, b]; exact h2
    · have e' : ¬ q.1 = k := fun z => e (h1.trans z)
      have b : valueAt (q :: qs) k = valueAt qs k := by simp [valueAt, List.find?_cons, e']
      rw [valV_neg e, b]; exact ih
theorem KV.any {kvs : List (κ × V)} {vs : List (κ × Value)} (r : KV kvs vs) (k : κ) : (kvs.any fun kv => decide (kv.1 = k)) = vs.any fun kv => decide (kv.1 = k) := by
  unfold KV at r
  induction r with
  | nil => rfl
  | cons h t ih => rw [List.any_cons, List.any_cons, ih, h.1]
theorem KV.repl {kvs : List (κ × V)} {vs : List (κ × Value)} (r : KV kvs vs) (k : κ) {y : V} {u : Value} (ry : RelV y u) :
    KV (kvs.map fun kv => if kv.1 = k then (kv.1, y) else kv) (vs.map fun kv => if kv.1 = k then (kv.1, u) else kv) := by
  unfold KV at r ⊢
  induction r with
  | nil => exact .nil
  | @cons p q ps qs h t ih =>
    rw [List.map_cons, List.map_cons]
    refine .cons ?_ ih
    obtain ⟨h1, h2⟩ := h
    by_cases e : p.1 = k
    · rw [if_pos e, if_pos (h1.symm.trans e)]; exact ⟨h1, ry⟩
    · rw [if_neg e, if_neg (fun z => e (h1.trans z))]; exact ⟨h1, h2⟩
theorem KV.put {kvs : List (κ × V)} {vs : List (κ × Value)} (r : KV kvs vs) (k : κ) {y : V} {u : Value} (ry : RelV y u) : KV (putK kvs k y) (stored vs k u) := by
  unfold putK stored
  rw [r.any k]
  by_cases e : (vs.any fun kv => decide (kv.1 = k)) = true
  · rw [if_pos e, if_pos e]; exact r.repl k ry
  · rw [if_neg e, if_neg e]; exact Paired.snoc r ⟨rfl, ry⟩
theorem KV.drop {kvs : List (κ × V)} {vs : List (κ × Value)} (r : KV kvs vs) (k : κ) : KV (dropK kvs k) (without vs k) := by
  unfold KV at r ⊢
  unfold dropK without
  induction r with
  | nil => exact .nil
  | @cons p q ps qs h t ih =>
    obtain ⟨h1, h2⟩ := h
    rw [List.filter_cons, List.filter_cons]
    by_cases e : p.1 = k
    · have a : ¬ decide (p.1 ≠ k) = true := by simp [e]
      have b : ¬ decide (q.1 ≠ k) = true := by simp [h1.symm.trans e]
      rw [if_neg a, if_neg b]; exact ih
    · have e' : ¬ q.1 = k := fun z => e (h1.trans z)
      have a : decide (p.1 ≠ k) = true := by simp [e]
      have b : decide (q.1 ≠ k) = true := by simp [e']
      rw [if_pos a, if_pos b]; exact .cons ⟨h1, h2⟩ ih
theorem KV.keys {kvs : List (κ × V)} {vs : List (κ × Value)} (r : KV kvs vs) : kvs.map (·.1) = vs.map (·.1) := by
  unfold KV at r
  induction r with
  | nil => rfl
  | cons h t ih => rw [List.map_cons, List.map_cons, ih, h.1]
theorem KV.length {kvs : List (κ × V)} {vs : List (κ × Value)} (r : KV kvs vs) : kvs.length = vs.length := Paired.length r
end


/-! ### a tracked dict, its keys ints and texts or tuples of these -/
theorem kV_is {P : Program} {w : World} {k : Key} {u : Value} (r : RelV (kV k) u) : (mixKind P w).is k u = true := by
  cases k with
  | inl i => obtain ⟨t, e⟩ := (show ∃ t, u = Value.int i t from r); subst e; exact mixKind_int P w i t
  | inr x => obtain ⟨t, e⟩ := (show ∃ t, u = Value.str x t from r); subst e; exact mixKind_str P w x t
theorem items_are {P : Program} {w : World} : ∀ {ks : List Key} {us : List Value}, Vals (ks.map kV) us → ItemsAre (mixKind P w) ks us
  | [], _, r => by rw [List.map_nil] at r; cases r; exact .nil
  | k :: ks, _, r => by
    rw [List.map_cons] at r
    cases r with
    | cons h t => exact .cons (kV_is h) (items_are t)

/-- raw entries of a dict with tuple keys -/
abbrev KT (H : Hp) : List (List Key × V) → List (List Key × Addr × Value) → Prop := Paired fun p q => p.1 = q.1 ∧ H q.2.1 = some (.tup (p.1.map kV)) ∧ RelV p.2 q.2.2
theorem KT.val {H : Hp} {kvs : List (List Key × V)} {xs : List (List Key × Addr × Value)} (r : KT H kvs xs) (k : List Key) : RelO (valV kvs k) ((atKey xs k).map (·.2)) := by
  induction r with
  | nil => exact True.intro
  | @cons p q ps qs h t ih =>
    obtain ⟨h1, _, h2⟩ := h
    by_cases e : p.1 = k
    · have e' : q.1 = k := h1.symm.trans e
      have b : atKey (q :: qs) k = some q.2 := by simp [atKey, List.find?_cons, e']
      rw [valV_pos e, b]; exact h2
    · have e' : ¬ q.1 = k := fun z => e (h1.trans z)
      have b : atKey (q :: qs) k = atKey qs k := by simp [atKey, List.find?_cons, e']
      rw [valV_neg e, b]; exact ih
theorem KT.repl {H : Hp} {kvs : List (List Key × V)} {xs : List (List Key × Addr × Value)} (r : KT H kvs xs) (k : List Key) {y : V} {u : Value} (ry : RelV y u) :
    KT H (kvs.map fun kv => if kv.1 = k then (kv.1, y) else kv) (xs.map (putAt k u)) := by
  induction r with
  | nil => exact .nil
  | @cons p q ps qs h t ih =>
    rw [List.map_cons, List.map_cons]
    refine .cons ?_ ih
    obtain ⟨h1, h2, h3⟩ := h
    unfold putAt
    by_cases e : p.1 = k
    · rw [if_pos e, if_pos (h1.symm.trans e)]; exact ⟨h1, h2, ry⟩
    · rw [if_neg e, if_neg (fun z => e (h1.trans z))]; exact ⟨h1, h2, h3⟩
theorem KT.put {H : Hp} {kvs : List (List Key × V)} {xs : List (List Key × Addr × Value)} (r : KT H kvs xs) (k : List Key) {b : Addr} {y : V} {u : Value} (hb : H b = some (.tup (k.map kV))) (ry : RelV y u) :
    KT H (putK kvs k y) (storedH xs k b u) := by
  have e : (kvs.any fun kv => decide (kv.1 = k)) = (atKey xs k).isSome := by
    rw [valV_any, (r.val k).isSome_eq, Option.isSome_map]
  unfold putK storedH
  rw [e]
  by_cases q : (atKey xs k).isSome = true
  · rw [if_pos q, if_pos q]; exact r.repl k ry
  · rw [if_neg q, if_neg q]; exact Paired.snoc r ⟨rfl, hb, ry⟩
theorem KT.keeps {H H' : Hp} {kvs : List (List Key × V)} {xs : List (List Key × Addr × Value)} (r : KT H kvs xs) (ht : ∀ b ys, H b = some (.tup ys) → H' b = some (.tup ys)) : KT H' kvs xs :=
  Paired.mapP r fun _ _ z => ⟨z.1, ht _ _ z.2.1, z.2.2⟩

section
variable {P : Program} {w : World} {H : Hp} {h : Heap} {a : Addr}
theorem rd_of {u : HO} (ok : HOk P w H h) (e : Rd H a u) : ObjOk P w H h a u := e.ok ok
theorem dk_rd {kvs : List (Key × V)} (ok : HOk P w H h) (e : Rd H a (.dK kvs)) : kvs.length ≤ sizeLine ∧ (a == sysModules) = false ∧ ∃ vs, KV kvs vs ∧ h.DictOf (mixKind P w) a vs :=
  show ObjOk P w H h a (.dK kvs) from rd_of ok e
theorem dk_of {kvs : List (Key × V)} (ok : HOk P w H h) (e : H a = some (.dK kvs)) : kvs.length ≤ sizeLine ∧ (a == sysModules) = false ∧ ∃ vs, KV kvs vs ∧ h.DictOf (mixKind P w) a vs := dk_rd ok (.inl e)
/-- a tracked tuple of ints and texts is a key -/
theorem key_of {ks : List Key} (ok : HOk P w H h) (e : H a = some (.tup (ks.map kV))) : (tupleKind (mixKind P w)).is h ks a := by
  obtain ⟨_, its, r, o, h1, h2, n, h3⟩ := (show ObjOk P w H h a (.tup (ks.map kV)) from ok a _ e)
  exact ⟨o, its.toArray, n, h1, h2, h3, by simpa using items_are r⟩
theorem dt_rd {kvs : List (List Key × V)} (ok : HOk P w H h) (e : Rd H a (.dT kvs)) : kvs.length ≤ sizeLine ∧ (a == sysModules) = false ∧
    ∃ xs, KT H kvs xs ∧ h.DictOfH (tupleKind (mixKind P w)) a xs := by
  obtain ⟨z, y, xs, r, o, es, ep, h1, h2, h3, h4, h5⟩ := (show ObjOk P w H h a (.dT kvs) from rd_of ok e)
  refine ⟨z, y, xs, r, o, es, ep, h1, h2, h3, h4, fun x hx => ?_, h5⟩
  have all : ∀ {l : List (List Key × V)} {m : List (List Key × Addr × Value)}, KT H l m → ∀ x ∈ m, (tupleKind (mixKind P w)).is h x.1 x.2.1 := by
    intro l m q
    induction q with
    | nil => intro x hx; exact nomatch hx
    | @cons p q ps qs hq t ih =>
      intro x hx
      rcases List.mem_cons.mp hx with e | hx
      · subst e
        exact key_of ok (by rw [← hq.1]; exact hq.2.1)
      · exact ih x hx
  exact all r x hx
theorem dt_of {kvs : List (List Key × V)} (ok : HOk P w H h) (e : H a = some (.dT kvs)) : kvs.length ≤ sizeLine ∧ (a == sysModules) = false ∧
    ∃ xs, KT H kvs xs ∧ h.DictOfH (tupleKind (mixKind P w)) a xs := dt_rd ok (.inl e)
end

/-- what the dict at a holds at the key y -/
def DGet (H : Hp) (a : Addr) (y : V) (r : Option V) : Prop :=
  (∃ kvs k, Rd H a (.dK kvs) ∧ y = kV k ∧ r = valV kvs k) ∨ ∃ kvs k b, Rd H a (.dT kvs) ∧ y = .ref b ∧ H b = some (.tup (k.map kV)) ∧ r = valV kvs k
/-- the heap behind a[y] = v -/
def DPut (H : Hp) (a : Addr) (y v : V) (H' : Hp) : Prop :=
  (∃ kvs k, H a = some (.dK kvs) ∧ y = kV k ∧ kvs.length < sizeLine ∧ H' = upd H a (.dK (putK kvs k v))) ∨
  ∃ kvs k b, H a = some (.dT kvs) ∧ y = .ref b ∧ H b = some (.tup (k.map kV)) ∧ kvs.length < sizeLine ∧ H' = upd H a (.dT (putK kvs k v))
theorem DGet.k {H : Hp} {a : Addr} {kvs : List (Key × V)} {k : Key} (e : H a = some (.dK kvs)) : DGet H a (kV k) (valV kvs k) := .inl ⟨kvs, k, .inl e, rfl, rfl⟩
theorem DGet.t {H : Hp} {a b : Addr} {kvs : List (List Key × V)} {k : List Key} (e : H a = some (.dT kvs)) (eb : H b = some (.tup (k.map kV))) : DGet H a (.ref b) (valV kvs k) := .inr ⟨kvs, k, b, .inl e, rfl, eb, rfl⟩
theorem DPut.k {H : Hp} {a : Addr} {kvs : List (Key × V)} {k : Key} {v : V} (e : H a = some (.dK kvs)) (hl : kvs.length < sizeLine) : DPut H a (kV k) v (upd H a (.dK (putK kvs k v))) := .inl ⟨kvs, k, e, rfl, hl, rfl⟩
theorem DPut.t {H : Hp} {a b : Addr} {kvs : List (List Key × V)} {k : List Key} {v : V} (e : H a = some (.dT kvs)) (eb : H b = some (.tup (k.map kV))) (hl : kvs.length < sizeLine) :
    DPut H a (.ref b) v (upd H a (.dT (putK kvs k v))) := .inr ⟨kvs, k, b, e, rfl, eb, hl, rfl⟩


section
variable {X : Cx} {pins : List (Addr × Obj)} {σ : St} {H : Hp} {s : Shared} {a : Addr} {y v : V} {u r : Value} {o : Option V} {A : Around} {E : Value → Shared → Prop}

theorem Inv.big (I : Inv X pins σ H s) : sysModules < s.heap.objs.size := by
  have h : mainGlobals < s.heap.objs.size := (I.mod.glob.keeps I.bk).lt
  exact Nat.lt_trans (by decide) h

/-- d[y], there -/
theorem d_getItem {Q : Value → Shared → Prop} (hu : A.units + 1 < cLine) (I : Inv X pins σ H s) (g : DGet H a y (some v)) (ry : RelV y u) (h : ∀ w' s', Inv X pins σ H s' → RelV v w' → Q w' s') :
    wpAny (model X.prog X.w) A (getItem (.ref a) u) Q E s := by
  rcases g with ⟨kvs, k, e, ey, l⟩ | ⟨kvs, k, b, e, ey, eb, l⟩
  · subst ey
    obtain ⟨z, hd, vs, rel, dd⟩ := dk_rd I.hok e
    obtain ⟨w', hw, rw'⟩ := RelO.some_of (v := v) (o := valueAt vs k) (by rw [l]; exact rel.val k)
    exact wpAny_getItem_of (kV_is ry) dd.mapOf hw (h w' _ (I.tok _) rw')
  · subst ey
    cases (show u = Value.ref b from ry)
    obtain ⟨z, hd, xs, rel, dd⟩ := dt_rd I.hok e
    obtain ⟨w', hw, rw'⟩ := RelO.some_of (v := v) (o := (atKey xs k).map (·.2)) (by rw [l]; exact rel.val k)
    obtain ⟨p, hp, hp2⟩ := Option.map_eq_some_iff.mp hw
    refine wpAny_getItem_heap (tupleKind_room_in1 hu) (key_of I.hok eb) dd hp ?_
    rw [hp2]
    exact h w' _ (I.tok _) rw'
theorem d_notIn {Q : Value → Shared → Prop} (hu : A.units + 1 < cLine) (I : Inv X pins σ H s) (g : DGet H a y o) (ry : RelV y u) (h : ∀ s', Inv X pins σ H s' → Q (.bool (!o.isSome)) s') :
    wpAny (model X.prog X.w) A (compareOp .NotIn u (.ref a)) Q E s := by
  rcases g with ⟨kvs, k, e, ey, l⟩ | ⟨kvs, k, b, e, ey, eb, l⟩
  · subst ey
    obtain ⟨z, hd, vs, rel, dd⟩ := dk_rd I.hok e
    refine wpAny_notIn_of (kV_is ry) hd dd.mapOf ?_
    rw [← (rel.val k).isSome_eq, ← l]
    exact h _ (I.tok _)
  · subst ey
    cases (show u = Value.ref b from ry)
    obtain ⟨z, hd, xs, rel, dd⟩ := dt_rd I.hok e
    refine wpAny_notIn_heap (tupleKind_room_in1 hu) (key_of I.hok eb) hd dd ?_
    have q := (rel.val k).isSome_eq
    rw [Option.isSome_map] at q
    rw [← q, ← l]
    exact h _ (I.tok _)
/-- a dict's object is replaced -/
theorem d_write {h' : Heap} {t' : Nat} {ob : HO} (I : Inv X pins σ H s) (mu : Mut (H a)) (hs : Heap.SameBut a s.heap h') (he : ∃ q, h'.get? a = some q) (new : ObjOk X.prog X.w (upd H a ob) h' a ob) :
    Inv X pins σ (upd H a ob) { s with heap := h', toks := t' } :=
  I.write (x := a) (e := a) mu (.inl rfl) (fun b q hb z => (hs.2 b hb).trans z) he new
theorem dk_new {P : Program} {w : World} {H' : Hp} {h' : Heap} {kvs : List (Key × V)} {vs : List (Key × Value)} (z : kvs.length ≤ sizeLine) (hd : (a == sysModules) = false) (rel : KV kvs vs) (dd : h'.DictOf (mixKind P w) a vs) :
    ObjOk P w H' h' a (.dK kvs) := ⟨z, hd, vs, rel, dd⟩
/-- d[y] = v -/
theorem d_setItem {H' : Hp} {Q : Unit → Shared → Prop} (hu : A.units + 1 < cLine) (I : Inv X pins σ H s) (g : DPut H a y v H') (ry : RelV y u) (rv : RelV v r) (h : ∀ s', Inv X pins σ H' s' → Q () s') :
    wpAny (model X.prog X.w) A (setItem (.ref a) u r) Q E s := by
  rcases g with ⟨kvs, k, e, ey, l, eH⟩ | ⟨kvs, k, b, e, ey, eb, l, eH⟩
  · subst ey eH
    obtain ⟨z, hd, vs, rel, dd⟩ := dk_of I.hok e
    have hz : vs.length ≤ sizeLine := by rw [← rel.length]; exact z
    have hl : (putK kvs k v).length ≤ sizeLine := by have := length_putK kvs k v; omega
    refine wpAny_setItem_pairs (hsz := hz) (kV_is ry) dd fun h' dd' hs => h _ ?_
    have he : ∃ q, h'.get? a = some q := let ⟨q, _, _, hq, _⟩ := dd'; ⟨q, hq⟩
    exact d_write I (by rw [e]; exact True.intro) hs he (dk_new hl hd (rel.put k rv) dd')
  · subst ey eH
    cases (show u = Value.ref b from ry)
    obtain ⟨z, hd, xs, rel, dd⟩ := dt_of I.hok e
    have hz : xs.length ≤ sizeLine := by rw [← Paired.length rel]; exact z
    have hl : (putK kvs k v).length ≤ sizeLine := by have := length_putK kvs k v; omega
    refine wpAny_setItem_heap (hsz := hz) (tupleKind_room_in1 hu) (key_of I.hok eb) dd fun h' dd' hs => h _ ?_
    obtain ⟨q, es, ep, hq, h2, h3, h4, _, h5⟩ := dd'
    refine d_write I (by rw [e]; exact True.intro) hs ⟨q, hq⟩ ⟨hl, hd, _, (rel.put k eb rv).keeps fun c ys ec => ?_, q, es, ep, hq, h2, h3, h4, h5⟩
    rw [upd_ne (ne_of ec e (fun z => nomatch z))]
    exact ec
end

section
variable {X : Cx} {pins : List (Addr × Obj)} {σ : St} {H : Hp} {s : Shared} {a : Addr} {kvs : List (Key × V)} {k : Key} {u : Value} {A : Around} {E : Value → Shared → Prop}
end


/-! ### readings and rules -/
/-- the element of a subscription, not a slice -/
def NoSl (i : Expr) : Prop := ∀ ov iv, subscripted i false ov iv = operate [ov, iv] (getItem ov iv)
theorem subD_of {prog : Program} {w : World} {A : Around} {E : Value → Shared → Prop} {s : Shared} {env : Env} {value slice : Expr} {pos : Pos} {T id : String} {Q : Value → Shared → Prop}
    (hl : typeLookup (.type T) "__getitem__" = pure (some (.builtin id))) (hs : NoSl slice)
    (h : wpAny (model prog w) A (eval value env) (fun o s₁ => wpAny (model prog w) A (eval slice env) (fun i s₂ => s₂.TypeIs o T ∧ wpAny (model prog w) A (getItem o i) Q E s₂) E s₁) E s) :
    wpAny (model prog w) A (eval (.Subscript value slice pos) env) Q E s := by
  refine Subscript_ (wpAny_mono h (fun o s₁ h₁ => wpAny_mono h₁ (fun i s₂ h₂ => ?_) fun _ _ x => x) fun _ _ x => x)
  obtain ⟨hT, h₂⟩ := h₂
  unfold subscriptTail
  refine wpAny_bind ?_
  rw [getitemInPython_of_ne hT.not_modules]
  refine wpAny_bind (wpAny_specialOf hT hl ?_)
  have fin : wpAny (model prog w) A (subscripted slice false o i) (fun r s₃ => wpAny (model prog w) A (letTemporaryGo value o r >>= fun _ => pure r) Q E s₃) E s₂ := by
    rw [hs o i]
    exact wpAny_operating (wpAny_mono h₂ (fun r s₃ h₃ => wpAny_bind (wpAny_letTemporaryGo (wpAny_pure h₃))) fun _ _ x => x)
  first
    | exact wpAny_pure (wpAny_bind fin)
    | exact wpAny_bind (wpAny_pure (wpAny_bind fin))
    | exact wpAny_bind fin

theorem dict_typeIs {X : Cx} {pins : List (Addr × Obj)} {σ : St} {H : Hp} {s : Shared} {a : Addr} {y : V} {o : Option V} (I : Inv X pins σ H s) (g : DGet H a y o) : s.TypeIs (.ref a) "dict" := by
  rcases g with ⟨kvs, k, e, _, _⟩ | ⟨kvs, k, b, e, _, _, _⟩
  · obtain ⟨_, _, vs, _, dd⟩ := dk_rd I.hok e
    exact dd.typeIs
  · obtain ⟨_, _, xs, _, dd⟩ := dt_rd I.hok e
    exact dd.typeIs
/-- d[y] -/
def tDGet (td ty : TE) : TE := fun σ H Q => td σ H fun x H1 => ty σ H1 fun y H2 => ∃ a v, x = .ref a ∧ DGet H2 a y (some v) ∧ Q v H2
def tDNotIn (ty td : TE) : TE := fun σ H Q => ty σ H fun y H1 => td σ H1 fun x H2 => ∃ a o, x = .ref a ∧ DGet H2 a y o ∧ Q (.bl (!o.isSome)) H2
/-- d[y] = v -/
def sDPut (td ty tv : TE) : TS := fun D σ H => tv σ H fun v H1 => td σ H1 fun x H2 => ty σ H2 fun y H3 => ∃ a H4, x = .ref a ∧ DPut H3 a y v H4 ∧ D.nx σ H4
section
variable {X : Cx} {o i e value : Expr} {pos pos' tpos : Pos} {td ty tv : TE}
theorem pe_dget (hu : X.A.units + 1 < cLine) (ho : PE X o td) (hi : PE X i ty) (hs : NoSl i) : PE X (.Subscript o i pos) (tDGet td ty) := by
  intro pins s σ H Q I h
  refine subD_of PySem.F.slot_dict_getitem.lookup hs (thn (ho pins s σ H _ I h) fun u s1 ⟨x, H1, I1, rx, q1⟩ => thn (hi pins s1 σ H1 _ I1 q1) fun iv s2 ⟨y, H2, I2, ry, a, v, ex, g, q2⟩ => ?_)
  subst ex
  obtain rfl : u = Value.ref a := rx
  exact ⟨dict_typeIs I2 g, d_getItem hu I2 g ry fun w' s3 I3 rw' => ⟨v, H2, I3, rw', q2⟩⟩
theorem pc_dnotin (hu : X.A.units + 1 < cLine) (hi : PE X i ty) (ho : PE X o td) : PC X .NotIn i o (tDNotIn ty td) := by
  intro pins s σ H Q I h
  refine thn (hi pins s σ H _ I h) fun iv s1 ⟨y, H1, I1, ry, q1⟩ => thn (ho pins s1 σ H1 _ I1 q1) fun u s2 ⟨x, H2, I2, rx, a, ov, ex, g, q2⟩ => ?_
  subst ex
  obtain rfl : u = Value.ref a := rx
  exact d_notIn hu I2 g ry fun s3 I3 => ⟨.bl (!ov.isSome), H2, I3, rfl, q2⟩
theorem ps_dput (hu : X.A.units + 1 < cLine) (ho : PE X o td) (hi : PE X i ty) (hv : PE X value tv) (hs : swapsWith value (some (.Subscript o i pos')) pos.line X.env = pure false) :
    PS X (.Assign [.Subscript o i pos'] value pos) (sDPut td ty tv) := by
  intro pins s σ H D I h
  refine wpAny_Assign_Subscript (thn (hv pins s σ H _ I h) fun r s1 ⟨v, H1, I1, rv, q1⟩ => thn (ho pins s1 σ H1 _ I1 q1) fun u s2 ⟨x, H2, I2, rx, q2⟩ => thn (hi pins s2 σ H2 _ I2 q2) fun iv s3 ⟨y, H3, I3, ry, a, H4, ex, g, q3⟩ => ?_) hs
  subst ex
  obtain rfl : u = Value.ref a := rx
  exact d_setItem hu I3 g ry rv fun s4 I4 => ⟨σ, H4, I4, q3⟩
end


/-! ### displays -/
theorem dk_empty {P : Program} {w : World} {H : Hp} (h : Heap) (hb : sysModules < h.objs.size) : ObjOk P w H (h.push { cls := .type "dict", data := .dict #[] }) h.objs.size (.dK []) :=
  ⟨Nat.zero_le _, beq_eq_false_iff_ne.mpr (Ne.symm (Nat.ne_of_lt hb)), [], .nil, Heap.DictOf.new h⟩
theorem dt_empty {P : Program} {w : World} {H : Hp} (h : Heap) (hb : sysModules < h.objs.size) : ObjOk P w H (h.push { cls := .type "dict", data := .dict #[] }) h.objs.size (.dT []) :=
  ⟨Nat.zero_le _, beq_eq_false_iff_ne.mpr (Ne.symm (Nat.ne_of_lt hb)), [], .nil, _, #[], 0, Heap.get?_push_size _ rfl, ⟨rfl, rfl, rfl⟩, rfl, rfl, List.nodup_nil⟩
/-- {}, to be a dict of the kind that is wanted -/
def tDNewK : TE := fun _ H Q => ∀ p, H p = none → Q (.ref p) (upd H p (.dK []))
def tDNewT : TE := fun _ H Q => ∀ p, H p = none → Q (.ref p) (upd H p (.dT []))
section
variable {X : Cx} {pos : Pos}
theorem pe_dnewK : PE X (.Dict [] [] pos) tDNewK := fun pins s σ H Q I h =>
  wpAny_Dict_empty ⟨.ref s.heap.objs.size, _, I.laid (a := s.heap.objs.size) (o := .dK []) (t' := s.toks) (fun _ _ q => Heap.get?_push_of_some _ q) (Nat.le_refl _) (dk_empty s.heap I.big), rfl, h _ (I.hok.fresh (Nat.le_refl _))⟩
theorem pe_dnewT : PE X (.Dict [] [] pos) tDNewT := fun pins s σ H Q I h =>
  wpAny_Dict_empty ⟨.ref s.heap.objs.size, _, I.laid (a := s.heap.objs.size) (o := .dT []) (t' := s.toks) (fun _ _ q => Heap.get?_push_of_some _ q) (Nat.le_refl _) (dt_empty s.heap I.big), rfl, h _ (I.hok.fresh (Nat.le_refl _))⟩
end

/-! ### methods -/
/-- a method call o.m(e) of a built-in, with one argument: what must be seen of the text -/
structure M1 (X : Cx) (o : Expr) (m : Str) (apos : Pos) (e : Expr) (cpos : Pos) : Prop where
  base : attributeBase o m X.env (eval o X.env) = eval o X.env
  few : ((backTo cpos (starEach [e] X.env)).all (fun x => !x.1) && (backToKw cpos (keywordEach [] X.env)).all (fun x => x.1.isSome)
    && decide (([e] : List Expr).length + ([] : List Keyword).length + (if ([] : List Keyword).isEmpty then 0 else 1) < 30)) = true
  line : (apos.endLine == cpos.line) = true
  trees : backTo cpos (starEach [e] X.env) = [(false, eval e X.env)]
structure M2 (X : Cx) (o : Expr) (m : Str) (apos : Pos) (e f : Expr) (cpos : Pos) : Prop where
  base : attributeBase o m X.env (eval o X.env) = eval o X.env
  few : ((backTo cpos (starEach [e, f] X.env)).all (fun x => !x.1) && (backToKw cpos (keywordEach [] X.env)).all (fun x => x.1.isSome)
    && decide (([e, f] : List Expr).length + ([] : List Keyword).length + (if ([] : List Keyword).isEmpty then 0 else 1) < 30)) = true
  line : (apos.endLine == cpos.line) = true
  trees : backTo cpos (starEach [e, f] X.env) = [(false, eval e X.env), (false, eval f X.env)]

/-- a is a dict, whatever its keys -/
def IsD (H : Hp) (a : Addr) : Prop := (∃ kvs, Rd H a (.dK kvs)) ∨ ∃ kvs, Rd H a (.dT kvs)
theorem isD_at {X : Cx} {pins : List (Addr × Obj)} {σ : St} {H : Hp} {s : Shared} {a : Addr} (I : Inv X pins σ H s) (d : IsD H a) :
    s.TypeIs (.ref a) "dict" ∧ (∀ b, Value.ref a = .ref b → ∃ ob, s.heap.get? b = some ob ∧ ob.dict = none) ∧ (a == sysModules) = false := by
  rcases d with ⟨kvs, e⟩ | ⟨kvs, e⟩
  · obtain ⟨_, hd, vs, _, dd⟩ := dk_rd I.hok e
    refine ⟨dd.typeIs, fun b q => ?_, hd⟩
    cases q
    obtain ⟨ob, _, _, h1, h2, _⟩ := dd
    exact ⟨ob, h1, h2.2.1⟩
  · obtain ⟨_, hd, xs, _, dd⟩ := dt_rd I.hok e
    refine ⟨dd.typeIs, fun b q => ?_, hd⟩
    cases q
    obtain ⟨ob, _, _, h1, h2, _⟩ := dd
    exact ⟨ob, h1, h2.2.1⟩

section
variable {X : Cx} {pins : List (Addr × Obj)} {σ : St} {H : Hp} {s : Shared} {a : Addr} {y d : V} {u r : Value} {o : Option V} {A : Around} {E : Value → Shared → Prop}
end

section
variable {X : Cx} {o e f : Expr} {apos cpos : Pos} {td ty tx : TE}
end

/-! ### dict(d): a copy -/
section
variable {X : Cx} {pins : List (Addr × Obj)} {σ : St} {H : Hp} {s : Shared} {a : Addr} {kvs : List (Key × V)} {A : Around} {E : Value → Shared → Prop}
end


section
variable {X : Cx} {pins : List (Addr × Obj)} {σ : St} {H : Hp} {s : Shared} {a : Addr} {y : V} {u : Value} {A : Around} {E : Value → Shared → Prop}
end
end L2

namespace L2
open PySem PySem.Spec PyProof.Rows

section
variable {prog : Program} {w : World} {A : Around} {E : Value → Shared → Prop}
end

section
variable {X : Cx}
end
end L2

namespace L2
open PySem PySem.Spec PyProof.Rows

section
variable {X : Cx} {pins : List (Addr × Obj)} {σ : St} {H : Hp} {s : Shared} {h' : Heap}
/-- .. and one new object is laid -/
theorem Inv.turnedNew {t' : Nat} {ch : List Addr} {T : Addr} {ob : HO} (I : Inv X pins σ H s) (k : ∀ b o, b ∉ ch → s.heap.get? b = some o → h'.get? b = some o) (hf : ∀ b ∈ ch, FpOk X pins H b) (hT : s.heap.objs.size ≤ T)
    (new : ObjOk X.prog X.w (upd H T ob) h' T ob) : Inv X pins σ (upd H T ob) { s with heap := h', toks := t' } := by
  have hn : H T = none := I.hok.fresh hT
  have nit : ∀ b u, H b = some u → b ∉ ch := fun b u e z => by
    have q := (hf b z).1
    rw [q] at e; cases e
  refine I.step (g' := s.gens) (d' := s.drawn) (ch := ch) (fun b hb => ⟨(hf b hb).2.2.2.1, (hf b hb).2.1, (hf b hb).2.2.2.2.1, (hf b hb).2.2.2.2.2⟩) (fun b o _ _ hc e _ => k b o hc e) (fun b o _ _ hc e _ => ⟨o.slots, k b o hc e⟩)
    (fun b o _ e n => ?_) (fun b o hc e => ⟨o, k b o hc e⟩) (fun b xs e => ?_) (fun b o u e => ?_) (fun b ps e => ⟨#[], ?_⟩) (fun m hm => ?_) (fun b u e => ?_) I.bare
  · rw [upd_ne (Nat.ne_of_lt (Nat.lt_of_lt_of_le (Heap.lt_size e) hT))]; exact n
  · rw [upd_ne (ne_of_none e hn)]; exact e
  · rw [upd_ne (ne_of_none e hn)]; exact e
  · rw [upd_ne (ne_of_none e hn), e]; simp
  · obtain ⟨o, es, ep, ho, r⟩ := hm
    exact ⟨o, es, ep, k _ o (fun z => (hf _ z).2.1 rfl) ho, r⟩
  · by_cases hb : b = T
    · subst hb
      rw [upd_same] at e
      cases e
      exact new
    · rw [upd_ne hb] at e
      refine (I.hok b u e).stay (fun c v hc q => k c v ?_ q) (fun c q => by rw [upd_ne (ne_of_none q hn)]; exact q) fun c xs q => by rw [upd_ne (ne_of_none q hn)]; exact q
      rcases hc with z | z
      · rw [z]; exact nit b u e
      · exact nit c _ z

/-! ### locking a thing while a statement runs -/
theorem Inv.lock {d : Addr} {u : HO} (I : Inv X pins σ H s) (h : H d = some u) (mu : Mut (some u)) : ∃ od, Inv X pins σ (upd H d (.frz od u)) s := by
  have x := I.hok d u h
  have ex : ∃ od, s.heap.get? d = some od := by
    cases u with
    | lst xs => obtain ⟨_, _, _, _, e⟩ := x; exact ⟨_, e⟩
    | dK kvs => obtain ⟨_, _, _, _, o, _, _, e, _⟩ := x; exact ⟨o, e⟩
    | dT kvs => obtain ⟨_, _, _, _, o, _, _, e, _⟩ := x; exact ⟨o, e⟩
    | set S n => obtain ⟨o, _, _, _, e, _⟩ := x; exact ⟨o, e⟩
    | ins C dx fs => obtain ⟨_, _, _, e, _⟩ := x; exact ⟨_, e⟩
    | ext φ => obtain ⟨_, ⟨_, e⟩, _⟩ := x; exact ⟨_, e⟩
    | _ => exact False.elim mu
  obtain ⟨od, e⟩ := ex
  have new : ObjOk X.prog X.w (upd H d (.frz od u)) s.heap d (.frz od u) := by
    refine ⟨e, x.stay (fun b v _ q => q) (fun b q => ?_) fun b xs q => ?_⟩
    · rw [upd_ne (fun z => by rw [z, h] at q; cases q; exact mu)]; exact q
    · rw [upd_ne (fun z => by rw [z, h] at q; cases q; exact mu)]; exact q
  exact ⟨od, I.write (x := d) (e := d) (t' := s.toks) (h' := s.heap) (by rw [h]; exact mu) (.inl rfl) (fun b v _ q => q) ⟨od, e⟩ new⟩
theorem Inv.nofrz {d : Addr} {u : HO} (I : Inv X pins σ H s) (h : H d = some u) (mu : Mut (some u)) : ∀ o' u', X.H_0 d ≠ some (.frz o' u') := fun o' u' e => by
  have q := I.base.frzs d o' u' e
  rw [h] at q
  cases q
  exact mu
theorem Inv.unlock {d : Addr} {od : Obj} {u : HO} (I : Inv X pins σ H s) (h : H d = some (.frz od u)) (hn : ∀ o' u', X.H_0 d ≠ some (.frz o' u')) : Inv X pins σ (upd H d u) s := by
  have neH : ∀ b o, H b = some o → (∀ o' u', o ≠ .frz o' u') → b ≠ d := fun b o e hne z => by
    rw [z, h] at e
    cases e
    exact hne _ _ rfl
  have neN : ∀ b, H b = none → b ≠ d := fun b e z => by rw [z, h] at e; cases e
  refine ⟨I.ok, I.os, I.bare, ⟨I.base.keep, I.base.slot, fun b o e n hx => ?_, I.base.there, fun b xs e => ?_, fun b o x e => ?_, fun b ps e => ?_⟩, I.loc, I.cell, ?_, fun x c e => ?_, fun p hp => ?_, fun b o e => ?_, I.len⟩
  · rw [upd_ne (neN b (I.base.free b o e n hx))]; exact I.base.free b o e n hx
  · have q := I.base.tups b xs e
    rw [upd_ne (neH b _ q (fun _ _ z => nomatch z))]; exact q
  · have q := I.base.frzs b o x e
    rw [upd_ne (fun z => by rw [z] at e; exact hn _ _ e)]; exact q
  · obtain ⟨m, q⟩ := I.base.tbls b ps e
    exact ⟨m, by rw [upd_ne (neH b _ q (fun _ _ z => nomatch z))]; exact q⟩
  · rw [upd_ne (neN _ I.free)]; exact I.free
  · rw [upd_ne (neN c (I.freeC x c e))]; exact I.freeC x c e
  · obtain ⟨e, n, r⟩ := I.pin p hp
    exact ⟨e, by rw [upd_ne (neN _ n)]; exact n, r⟩
  · by_cases hb : b = d
    · rw [hb, upd_same] at e
      cases e
      rw [hb]
      obtain ⟨_, x⟩ := I.hok d _ h
      exact x.stay (fun c v _ q => q) (fun c q => by rw [upd_ne (neH c _ q (fun _ _ z => nomatch z))]; exact q) fun c xs q => by rw [upd_ne (neH c _ q (fun _ _ z => nomatch z))]; exact q
    · rw [upd_ne hb] at e
      exact (I.hok b o e).stay (fun c v _ q => q) (fun c q => by rw [upd_ne (neH c _ q (fun _ _ z => nomatch z))]; exact q) fun c xs q => by rw [upd_ne (neH c _ q (fun _ _ z => nomatch z))]; exact q
end
/-- the statement runs while the thing at d is locked (read, not written); d and what stands there are the reading's choice -/
def tLock (t : TS) : TS := fun D σ H => ∃ d u, H d = some u ∧ Mut (some u) ∧ ∀ od, t ⟨fun σ' H' => H' d = some (.frz od u) ∧ D.nx σ' (upd H' d u), fun v H' => H' d = some (.frz od u) ∧ D.rt v (upd H' d u), fun σ' H' => H' d = some (.frz od u) ∧ D.bk σ' (upd H' d u), fun σ' H' => H' d = some (.frz od u) ∧ D.ct σ' (upd H' d u)⟩ σ (upd H d (.frz od u))
section
variable {X : Cx}
theorem ps_lock {st : Stmt} {t : TS} (h : PS X st t) : PS X st (tLock t) := by
  intro pins s σ H D I hw
  obtain ⟨d, u, hd, mu, hw⟩ := hw
  obtain ⟨od, I1⟩ := I.lock hd mu
  refine thn (h pins s σ _ _ I1 (hw od)) fun f s1 q => ?_
  cases f with
  | next => obtain ⟨σ', H', I2, e, q⟩ := q; exact ⟨σ', _, I2.unlock e (I.nofrz hd mu), q⟩
  | brk => obtain ⟨σ', H', I2, e, q⟩ := q; exact ⟨σ', _, I2.unlock e (I.nofrz hd mu), q⟩
  | cont => obtain ⟨σ', H', I2, e, q⟩ := q; exact ⟨σ', _, I2.unlock e (I.nofrz hd mu), q⟩
  | ret v => obtain ⟨x, σ', H', I2, r, e, q⟩ := q; exact ⟨x, σ', _, I2.unlock e (I.nofrz hd mu), r, q⟩
/-! ### one iterator just laid -/
theorem pi_one {tg : Expr} {pins : List (Addr × Obj)} {σ : St} {H : Hp} {s : Shared} {R : It → Hp → Prop} {J : It} {tn : Nat → Heap → Prop} {tk : Nat} (I : Inv X pins σ H s) (o : Obj)
    (T : Turn X.prog X.w X.K tg J [s.heap.objs.size] s.heap.objs.size tn) (st : tn 0 (s.heap.push o)) (q : R J H) : PIE X pins σ tg R (.ref s.heap.objs.size) { s with heap := s.heap.push o, toks := tk } := by
  refine ⟨s.heap.objs.size, [s.heap.objs.size], tn, J, H, rfl, I.kept fun b ob e => Heap.get?_push_of_some _ e, T, st, fun b hb => ?_, q⟩
  have e : b = s.heap.objs.size := by simpa using hb
  subst e
  exact I.fpOk (Nat.le_refl _) (I.hok.fresh (Nat.le_refl _))
end

/-! ### range with a step -/
section
variable {X : Cx} {tg : Expr}
end
/-! ### reversed(list) -/
section
variable {X : Cx} {tg : Expr}
end

/-! ### a str -/
/-! ### a dict's keys: any dict's entries -/
section
variable {prog : Program} {w : World} {A : Around} {E : Value → Shared → Prop} {s : Shared}
theorem iter_keys {d : Addr} {o : Obj} {es : Array DictEntry} {ep : Nat} {Q : Value → Shared → Prop} (hd : (d == sysModules) = false) (ho : s.heap.get? d = some o) (hc : o.ExactDict) (hdat : o.data = .dict es ep)
    (hQ : Q (.ref s.heap.objs.size) { s with heap := s.heap.push { cls := .type "dict_keyiterator", data := .fields #[.ref d, .int 0 0, .int es.size 0, .int ep 0] } }) :
    wpAny (model prog w) A (pyIter (.ref d)) Q E s := by
  have hT : s.TypeIs (.ref d) "dict" := ⟨o, ho, hc.1⟩
  refine wpAny_pyIter_slot hT F.slot_dict_iter (wpAny_call_entry F.slot_dict_iter hT F.entry_dict_iter ?_ (F.args_dict_iter_1 _))
  unfold Builtin.«dict.__iter__»
  refine wpAny_bind ?_
  unfold Builtin.Dict.dictSlotNone
  refine wpAny_bind (wpAny_notOrdered_dict hT ?_)
  show wpAny _ _ (pure (Value.ref d)) _ _ s
  refine wpAny_pure ?_
  show wpAny _ _ (Builtin.Dict.showsAll d >>= _) _ _ s
  unfold Builtin.Dict.showsAll
  rw [if_neg (by rw [hd]; exact Bool.false_ne_true)]
  refine wpAny_bind (wpAny_pure ?_)
  refine wpAny_bind (wpAny_dictEntries ho hdat ?_)
  refine wpAny_bind (wpAny_dictEpoch ho hdat ?_)
  refine wpAny_bind (wpAny_newObj_type (wpAny_pure ⟨_, rfl, "dict_keyiterator", _, ⟨_, Heap.get?_push_size _ rfl, rfl⟩, F.slot_dict_keyiterator_next.lookup, ?_⟩))
  simpa [rawInt] using hQ
theorem next_key_item {it d : Addr} {i n ep : Nat} {od : Obj} {es : Array DictEntry} {en : DictEntry} {Q : Option Value → Shared → Prop} (hit : s.heap.IsKeyIter it d i n ep) (hod : s.heap.get? d = some od) (hdd : od.data = .dict es ep)
    (hsz : es.size = n) (hx : es[i]? = some en) (hQ : ∀ h', h'.IsKeyIter it d (i + 1) n ep → Heap.SameBut it s.heap h' → Q (some en.key) { s with heap := h' }) : wpAny (model prog w) A (pyNext (.ref it)) Q E s := by
  obtain ⟨o, ho, hc, hd⟩ := id hit
  unfold pyNext
  refine wpAny_bind (wpAny_attempt (wpAny_callSpecial?_slot (name := Str.ofString "__next__") hit.typeIs F.slot_dict_keyiterator_next
    (wpAny_call_entry F.slot_dict_keyiterator_next hit.typeIs F.entry_dict_keyiterator_next ?_ (F.args_dict_keyiterator_next_1 _))))
  refine wpAny_bind (wpAny_pure ?_)
  refine wpAny_bind ?_
  refine wpAny_bind ?_
  first | refine wpAny_bind (wpAny_typeNameOfWhole_keyiter hit.typeIs (wpAny_pure ?_)) | refine wpAny_bind (wpAny_typeNameOf_keyiter hit.typeIs (wpAny_pure ?_))
  refine wpAny_bind (wpAny_fieldsOf ho hd ?_)
  have hown : Builtin.Dict_items.ownsTuple "dict_keyiterator" = false := by decide
  simp only [hown, Bool.false_eq_true, if_false]
  show wpAny _ _ (if (Value.ref d == Value.none) = true then _ else _) _ _ s
  rw [if_neg (show ¬ ((Value.ref d == Value.none) = true) from Bool.false_ne_true)]
  refine wpAny_bind (wpAny_pure ?_)
  refine wpAny_bind (wpAny_dictEntries hod hdd ?_)
  rw [if_neg (by rw [hsz]; simp)]
  refine wpAny_bind (wpAny_pure ?_)
  refine wpAny_bind (wpAny_dictEpoch hod hdd ?_)
  rw [if_neg (by simp)]
  refine wpAny_pure ?_
  obtain ⟨hlt', hen⟩ := Array.getElem?_eq_some_iff.mp hx
  simp only [show ¬ ((i : Int) < 0) from by omega, if_false, Int.toNat_natCast, Array.getElem?_eq_getElem hlt']
  refine wpAny_bind ?_
  first | refine wpAny_bind (wpAny_typeNameOfWhole_keyiter hit.typeIs (wpAny_pure ?_)) | refine wpAny_bind (wpAny_typeNameOf_keyiter hit.typeIs (wpAny_pure ?_))
  refine wpAny_bind (wpAny_isOneOf_keyiter hit.typeIs ?_)
  show wpAny _ _ (setField (.ref it) 1 (rawInt ((i : Int) + 1)) >>= _) _ _ s
  refine wpAny_bind (wpAny_setField ho hd (by simp) ?_)
  have hit' : (s.heap.update it (Obj.mapFields (·.setIfInBounds 1 (rawInt ((i : Int) + 1))))).IsKeyIter it d (i + 1) n ep :=
    ⟨_, Heap.get?_update_self _ ho (Obj.isFreed_of_fields (Obj.data_mapFields hd _)), (Obj.cls_mapFields ..).trans hc, by rw [Obj.data_mapFields hd]; simp [rawInt]⟩
  refine wpAny_bind (wpAny_holding ?_)
  refine wpAny_bind (wpAny_isOneOf_keyiter (s := { s with heap := s.heap.update it (Obj.mapFields (·.setIfInBounds 1 (rawInt ((i : Int) + 1)))) }) hit'.typeIs ?_)
  show wpAny _ _ (pure es[i].key) _ _ _
  rw [hen]
  exact wpAny_pure (wpAny_pure ⟨_, rfl, wpAny_pure (hQ _ hit' (Heap.SameBut.update ..))⟩)
theorem next_key_end {it d : Addr} {i n ep : Nat} {od : Obj} {es : Array DictEntry} {Q : Option Value → Shared → Prop} (hh : A.handled = none) (hit : s.heap.IsKeyIter it d i n ep) (hod : s.heap.get? d = some od) (hdd : od.data = .dict es ep)
    (hsz : es.size = n) (hge : n ≤ i) (hQ : ∀ h', Heap.ExtBut it s.heap h' → Q none { s with heap := h' }) : wpAny (model prog w) A (pyNext (.ref it)) Q E s := by
  obtain ⟨o, ho, hc, hd⟩ := id hit
  unfold pyNext
  refine wpAny_bind (wpAny_attempt (wpAny_callSpecial?_slot (name := Str.ofString "__next__") hit.typeIs F.slot_dict_keyiterator_next
    (wpAny_call_entry F.slot_dict_keyiterator_next hit.typeIs F.entry_dict_keyiterator_next ?_ (F.args_dict_keyiterator_next_1 _))))
  refine wpAny_bind (wpAny_pure ?_)
  refine wpAny_bind ?_
  refine wpAny_bind ?_
  first | refine wpAny_bind (wpAny_typeNameOfWhole_keyiter hit.typeIs (wpAny_pure ?_)) | refine wpAny_bind (wpAny_typeNameOf_keyiter hit.typeIs (wpAny_pure ?_))
  refine wpAny_bind (wpAny_fieldsOf ho hd ?_)
  have hown : Builtin.Dict_items.ownsTuple "dict_keyiterator" = false := by decide
  simp only [hown, Bool.false_eq_true, if_false]
  show wpAny _ _ (if (Value.ref d == Value.none) = true then _ else _) _ _ s
  rw [if_neg (show ¬ ((Value.ref d == Value.none) = true) from Bool.false_ne_true)]
  refine wpAny_bind (wpAny_pure ?_)
  refine wpAny_bind (wpAny_dictEntries hod hdd ?_)
  rw [if_neg (by rw [hsz]; simp)]
  refine wpAny_bind (wpAny_pure ?_)
  refine wpAny_bind (wpAny_dictEpoch hod hdd ?_)
  rw [if_neg (by simp)]
  refine wpAny_pure ?_
  have hge' : es.size ≤ i := by rw [hsz]; exact hge
  simp only [show ¬ ((i : Int) < 0) from by omega, if_false, Int.toNat_natCast, Array.getElem?_eq_none hge']
  refine wpAny_bind ?_
  first | refine wpAny_bind (wpAny_typeNameOfWhole_keyiter hit.typeIs (wpAny_pure ?_)) | refine wpAny_bind (wpAny_typeNameOf_keyiter hit.typeIs (wpAny_pure ?_))
  show wpAny _ _ (setField (.ref it) 0 .none >>= _) _ _ s
  refine wpAny_bind (wpAny_setField ho hd (by simp) ?_)
  show wpAny _ _ (newExc (.type "StopIteration") [] >>= _) _ _ _
  refine wpAny_bind ?_
  simp only [newExc, newTuple]
  refine wpAny_bind (wpAny_newObj_type ?_ (by size_fits))
  refine wpAny_bind (m := firstArgMember _ _) (wpAny_of_eq (a := Value.none) (by first | rfl | (simp only [firstArgMember]; rfl)) ?_)
  refine wpAny_newObj_type ?_ (by size_fits)
  simp only [raiseNew]
  refine wpAny_bind (wpAny_handled ?_)
  rw [show A.in1.handled = none from hh]
  refine wpAny_bind (wpAny_pure (wpAny_throw ?_))
  refine wpAny_bind (wpAny_isInstance (T := "StopIteration") (b := true) ⟨_, Heap.get?_push_size _ rfl, rfl⟩ isSubtype_stop ?_)
  exact wpAny_pure (hQ _ (((Heap.SameBut.update ..).extBut.push _).push _))
end

/-! ### a locked dict -/
theorem kv_get {κ : Type} {kvs : List (κ × V)} {vs : List (κ × Value)} (h : KV kvs vs) : ∀ {i : Nat} {k : κ} {v : V}, kvs[i]? = some (k, v) → ∃ u, vs[i]? = some (k, u) ∧ RelV v u := by
  unfold KV at h
  induction h with
  | nil => intro i k v e; simp at e
  | @cons a b l₁ l₂ r t ih =>
    intro i k v e
    cases i with
    | zero =>
      simp only [List.getElem?_cons_zero, Option.some.injEq] at e
      subst e
      refine ⟨b.2, ?_, r.2⟩
      simp only [List.getElem?_cons_zero]
      exact congrArg some (Prod.ext r.1.symm rfl)
    | succ j =>
      simp only [List.getElem?_cons_succ] at e ⊢
      exact ih e
theorem paired_get {α β : Type} {G : α → β → Prop} {l₁ : List α} {l₂ : List β} (h : Paired G l₁ l₂) : ∀ {i : Nat} {a : α}, l₁[i]? = some a → ∃ b, l₂[i]? = some b ∧ G a b := by
  induction h with
  | nil => intro i a e; simp at e
  | @cons a b l₁ l₂ r t ih =>
    intro i a' e
    cases i with
    | zero =>
      simp only [List.getElem?_cons_zero, Option.some.injEq] at e
      subst e
      exact ⟨b, rfl, r⟩
    | succ j =>
      simp only [List.getElem?_cons_succ] at e ⊢
      exact ih e
theorem relV_key {k : Key} {u : Value} (h : keyIs k u = true) : RelV (kV k) u := by
  rcases keyIs_shape h with ⟨i, t, rfl, rfl⟩ | ⟨x, t, rfl, rfl⟩
  · exact ⟨t, rfl⟩
  · exact ⟨t, rfl⟩
section
variable {X : Cx} {pins : List (Addr × Obj)} {σ : St} {H : Hp} {s : Shared} {d : Addr} {o : Obj}
theorem Inv.frzK {kvs : List (Key × V)} (I : Inv X pins σ H s) (h : H d = some (.frz o (.dK kvs))) :
    (d == sysModules) = false ∧ s.heap.get? d = some o ∧ o.ExactDict ∧ ∃ (es : Array DictEntry) (ep : Nat) (vs : List (Key × Value)), o.data = .dict es ep ∧ es.size = kvs.length ∧ KV kvs vs ∧ s.heap.DictAt (mixKind X.prog X.w) d vs ep := by
  obtain ⟨hd, z, hs, vs, kv, o', es, ep, ho, hx, hdt, r⟩ := I.hok d _ h
  rw [hd] at ho
  cases ho
  refine ⟨hs, hd, hx, es, ep, vs, hdt, ?_, kv, o, es, hd, hx, hdt, r⟩
  have l1 := r.2.1.length
  have l2 : kvs.length = vs.length := Paired.length kv
  rw [Array.length_toList] at l1
  omega
/-- the same for tuple keys -/
theorem Inv.frzT {kvs : List (List Key × V)} (I : Inv X pins σ H s) (h : H d = some (.frz o (.dT kvs))) :
    (d == sysModules) = false ∧ s.heap.get? d = some o ∧ o.ExactDict ∧ ∃ (es : Array DictEntry) (ep : Nat), o.data = .dict es ep ∧ es.size = kvs.length ∧
      ∀ (i : Nat) (k : List Key) (v : V), kvs[i]? = some (k, v) → ∃ (en : DictEntry) (q : Addr), es[i]? = some en ∧ en.key = .ref q ∧ H q = some (.tup (k.map kV)) := by
  obtain ⟨hd, z, hs, xs, pr, o', es, ep, ho, hx, hdt, he, _⟩ := I.hok d _ h
  rw [hd] at ho
  cases ho
  refine ⟨hs, hd, hx, es, ep, hdt, ?_, fun i k v e => ?_⟩
  · have l1 : es.size = xs.length := size_of_entries he
    have l2 : kvs.length = xs.length := Paired.length pr
    omega
  · obtain ⟨b, hb, e1, e2, _⟩ := paired_get pr e
    have q := entry_at he i
    rw [hb] at q
    exact ⟨_, b.2.1, q, rfl, e2⟩
end

/-- the keys of the locked dict at d, in their order -/
def Itk (d : Addr) (o : Obj) (kvs : List (Key × V)) : It :=
  ⟨fun i H => H d = some (.frz o (.dK kvs)) ∧ i < kvs.length, fun i H x H' => H' = H ∧ ∃ k v, kvs[i]? = some (k, v) ∧ x = kV k, fun i H => H d = some (.frz o (.dK kvs)) ∧ kvs.length ≤ i⟩
/-- .. of tuple keys: the key's own tuple -/
def Itkt (d : Addr) (o : Obj) (kvs : List (List Key × V)) : It :=
  ⟨fun i H => H d = some (.frz o (.dT kvs)) ∧ i < kvs.length, fun i H x H' => H' = H ∧ ∃ (k : List Key) (v : V) (q : Addr), kvs[i]? = some (k, v) ∧ x = .ref q ∧ H q = some (.tup (k.map kV)), fun i H => H d = some (.frz o (.dT kvs)) ∧ kvs.length ≤ i⟩
theorem dict_ep {o : Obj} {es es' : Array DictEntry} {ep ep' : Nat} (h : o.data = .dict es ep) (h' : o.data = .dict es' ep') : es' = es ∧ ep' = ep := by
  rw [h] at h'
  cases h'
  exact ⟨rfl, rfl⟩
section
variable {P : Program} {w : World} {K : PySem.W.Frag} {tg : Expr} {d : Addr} {o : Obj} {es : Array DictEntry} {ep : Nat}
theorem turn_keys {kvs : List (Key × V)} (it : Addr) (hod : o.data = .dict es ep) : Turn P w K tg (Itk d o kvs) [it] it (fun i h => h.IsKeyIter it d i kvs.length ep) where
  mem := by simp
  obj := fun i h st b hb => by
    have e : b = it := by simpa using hb
    subst e
    obtain ⟨oi, e, c, dd⟩ := st
    exact ⟨oi, e, fun v z => by rw [dd] at z; cases z⟩
  keep := fun i h h' st k => st.at fun oi e => k it (by simp) oi e
  item := by
    intro X hP hw hK hc i pins s σ H E I hf st hg
    subst hP hw hK
    obtain ⟨hd, hi⟩ := hg
    obtain ⟨f0, f1, f2, f3, f4, f5⟩ := hf it (by simp)
    obtain ⟨hs, hgd, hx, es', ep', vs, hdt, hsz, kv, hm⟩ := I.frzK hd
    obtain ⟨rfl, rfl⟩ := dict_ep hod hdt
    obtain ⟨⟨k, v⟩, hkv⟩ : ∃ p, kvs[i]? = some p := ⟨kvs[i], List.getElem?_eq_getElem hi⟩
    obtain ⟨u, hu, ru⟩ := kv_get kv hkv
    have hl : kvs.length = vs.length := Paired.length kv
    rw [hl] at st
    refine wpAny_pyNext_dict_item st hm hu fun key h' hkey st' sb => ?_
    have I1 : Inv X pins σ H { s with heap := h' } := I.turned (t' := s.toks) (fun b ob hb e => (sb.2 b hb).trans e) f0 f1 f3 f4 f5
    obtain ⟨oi, e, c, dd⟩ := id st'
    refine ⟨key, rfl, go_of (s := { s with heap := h' }) e c dd (by decide) ⟨kV k, H, I1, relV_key (show keyIs k key = true from hkey), ⟨rfl, k, v, hkv, rfl⟩, ?_, fun b hb => (hf b hb).1⟩⟩
    show h'.IsKeyIter it d (i + 1) kvs.length _
    rw [hl]
    exact st'
  done := by
    intro X hP hw hK hc i pins s σ H E I hf st hg
    subst hP hw hK
    obtain ⟨hd, hi⟩ := hg
    obtain ⟨f0, f1, f2, f3, f4, f5⟩ := hf it (by simp)
    obtain ⟨hs, hgd, hx, es', ep', vs, hdt, hsz, kv, hm⟩ := I.frzK hd
    obtain ⟨rfl, rfl⟩ := dict_ep hod hdt
    exact next_key_end (I.ok.hd hc) st hgd hdt hsz hi fun h' eb => ⟨rfl, I.turned (t' := s.toks) (fun b ob hb e => eb b ob hb e) f0 f1 f3 f4 f5⟩
  self := fun A i s Q E st h => wpAny_pyIter_keyiter st h
theorem turn_keysT {kvs : List (List Key × V)} (it : Addr) (hod : o.data = .dict es ep) : Turn P w K tg (Itkt d o kvs) [it] it (fun i h => h.IsKeyIter it d i kvs.length ep) where
  mem := by simp
  obj := fun i h st b hb => by
    have e : b = it := by simpa using hb
    subst e
    obtain ⟨oi, e, c, dd⟩ := st
    exact ⟨oi, e, fun v z => by rw [dd] at z; cases z⟩
  keep := fun i h h' st k => st.at fun oi e => k it (by simp) oi e
  item := by
    intro X hP hw hK hc i pins s σ H E I hf st hg
    subst hP hw hK
    obtain ⟨hd, hi⟩ := hg
    obtain ⟨f0, f1, f2, f3, f4, f5⟩ := hf it (by simp)
    obtain ⟨hs, hgd, hx, es', ep', hdt, hsz, ent⟩ := I.frzT hd
    obtain ⟨rfl, rfl⟩ := dict_ep hod hdt
    obtain ⟨⟨k, v⟩, hkv⟩ : ∃ p, kvs[i]? = some p := ⟨kvs[i], List.getElem?_eq_getElem hi⟩
    obtain ⟨en, q, hen, hkey, hq⟩ := ent i k v hkv
    refine next_key_item st hgd hdt hsz hen fun h' st' sb => ?_
    have I1 : Inv X pins σ H { s with heap := h' } := I.turned (t' := s.toks) (fun b ob hb e => (sb.2 b hb).trans e) f0 f1 f3 f4 f5
    obtain ⟨oi, e, c, dd⟩ := id st'
    exact ⟨en.key, rfl, go_of (s := { s with heap := h' }) e c dd (by decide) ⟨.ref q, H, I1, hkey, ⟨rfl, k, v, q, hkv, rfl, hq⟩, st', fun b hb => (hf b hb).1⟩⟩
  done := by
    intro X hP hw hK hc i pins s σ H E I hf st hg
    subst hP hw hK
    obtain ⟨hd, hi⟩ := hg
    obtain ⟨f0, f1, f2, f3, f4, f5⟩ := hf it (by simp)
    obtain ⟨hs, hgd, hx, es', ep', hdt, hsz, ent⟩ := I.frzT hd
    obtain ⟨rfl, rfl⟩ := dict_ep hod hdt
    exact next_key_end (I.ok.hd hc) st hgd hdt hsz hi fun h' eb => ⟨rfl, I.turned (t' := s.toks) (fun b ob hb e => eb b ob hb e) f0 f1 f3 f4 f5⟩
  self := fun A i s Q E st h => by
    refine wpAny_pyIter_slot st.typeIs F.slot_dict_keyiterator_iter (wpAny_call_entry F.slot_dict_keyiterator_iter st.typeIs F.entry_dict_keyiterator_iter ?_ (F.args_dict_keyiterator_iter_1 _))
    show wpAny _ _ (ret (.ref it)) _ _ s
    exact wpAny_pure ⟨_, rfl, "dict_keyiterator", _, st.typeIs, F.slot_dict_keyiterator_next.lookup, h⟩
end

/-! ### for k in d, d.keys(), d.values(), d.items() -/
/-- the dict is locked (tLock, or by the caller) -/
def iKeys (td : TE) : TI := fun σ H R => td σ H fun x H1 => ∃ d o, x = .ref d ∧ ((∃ kvs, H1 d = some (.frz o (.dK kvs)) ∧ R (Itk d o kvs) H1) ∨ ∃ kvs, H1 d = some (.frz o (.dT kvs)) ∧ R (Itkt d o kvs) H1)
section
variable {X : Cx} {tg e : Expr} {td : TE} {apos cpos : Pos}
theorem pi_keys (he : PE X e td) : PI X tg e (iKeys td) := by
  intro pins s σ H R I h
  refine thn (he pins s σ H _ I h) fun u s1 ⟨x, H1, I1, rx, d, o, ex, q⟩ => ?_
  subst ex
  obtain rfl : u = Value.ref d := rx
  rcases q with ⟨kvs, hd, q⟩ | ⟨kvs, hd, q⟩
  · obtain ⟨hs, hgd, hx, es, ep, vs, hdt, hsz, kv, hm⟩ := I1.frzK hd
    refine iter_keys hs hgd hx hdt (pi_one (tk := s1.toks) I1 _ (turn_keys _ hdt) ⟨_, Heap.get?_push_size _ rfl, rfl, ?_⟩ q)
    rw [hsz] <;> rfl
  · obtain ⟨hs, hgd, hx, es, ep, hdt, hsz, ent⟩ := I1.frzT hd
    refine iter_keys hs hgd hx hdt (pi_one (tk := s1.toks) I1 _ (turn_keysT _ hdt) ⟨_, Heap.get?_push_size _ rfl, rfl, ?_⟩ q)
    rw [hsz] <;> rfl
end

/-! ### enumerate(list) -/
/-- the list at a as it stands at each turn, each item in a new pair -/
def Ite (K : PySem.W.Frag) (a : Addr) : It :=
  ⟨fun i H => ∃ (xs : List V) (x : V), SqL K H a xs ∧ xs[i]? = some x, fun i H v H' => ∃ T x, v = .ref T ∧ H T = none ∧ H' = upd H T (.tup [.int (i : Nat), x]) ∧ ∀ xs, SqL K H a xs → xs[i]? = some x, fun i H => ∃ xs : List V, SqL K H a xs ∧ xs.length ≤ i⟩
theorem turn_enum {P : Program} {w : World} {K : PySem.W.Frag} {elts : List Expr} {kk : Nat} {tpos : Pos} (a e it : Addr) :
    Turn P w K (.Tuple elts kk tpos) (Ite K a) [e, it] e (fun i h => (∃ old, IsEnum h e it ((i : Nat) : Int) old) ∧ h.IsListIter it a i ∧ e ≠ it) where
  mem := by simp
  obj := fun i h st b hb => by
    obtain ⟨⟨old, he⟩, ⟨o, ho, hc, hd⟩, _⟩ := st
    have e' : b = e ∨ b = it := by simpa using hb
    rcases e' with z | z
    · rw [z]; exact ⟨_, he, fun v q => nomatch q⟩
    · rw [z]; exact ⟨o, ho, fun v q => by rw [hd] at q; cases q⟩
  keep := fun i h h' st k => let ⟨⟨old, he⟩, hi, hne⟩ := st; ⟨⟨old, k e (by simp) _ he⟩, hi.at fun o q => k it (by simp) o q, hne⟩
  item := by
    intro X hP hw hK hc i pins s σ H E I hf st hg
    subst hP hw hK
    obtain ⟨⟨old, he⟩, hit, hne⟩ := st
    obtain ⟨xs, x, hq, hx⟩ := hg
    obtain ⟨its, rv, p, hz⟩ := I.list hq
    obtain ⟨u, hu, ru⟩ := rv.get hx
    have hel : e < s.heap.objs.size := Heap.lt_size he
    have hil : it < s.heap.objs.size := by obtain ⟨_, q, _⟩ := hit; exact Heap.lt_size q
    refine wpAny_pyNext_enum_item he hit p.isList (x := u) (by simpa using hu) hne fun h' ho hit' hT hsz hk => ?_
    refine ⟨_, rfl, wpAny_letOwnedTupleGo_enum (s := { s with heap := h', toks := s.toks + 1 }) ho fun h'' he' sb => ?_⟩
    have hT2 : h''.get? s.heap.objs.size = some { cls := .type "tuple", data := .seq #[.int i s.toks, u] } := (sb.2 _ (Nat.ne_of_gt hel)).trans hT
    have new : ObjOk X.prog X.w (upd H s.heap.objs.size (.tup [.int (i : Nat), x])) h'' s.heap.objs.size (.tup [.int (i : Nat), x]) :=
      ⟨by show 2 ≤ sizeLine; decide, [.int i s.toks, u], .cons ⟨_, rfl⟩ (.cons ru .nil), ⟨_, hT2, rfl, _, rfl⟩⟩
    have I1 : Inv X pins σ (upd H s.heap.objs.size (.tup [.int (i : Nat), x])) { s with heap := h'', toks := s.toks + 1 } :=
      I.turnedNew (ch := [e, it]) (fun b ob hb q => (sb.2 b (fun z => hb (by simp [z]))).trans (hk b ob (fun z => hb (by simp [z])) (fun z => hb (by simp [z])) q)) hf (Nat.le_refl _) new
    refine ⟨.ref s.heap.objs.size, _, I1, rfl, ⟨_, x, rfl, I.hok.fresh (Nat.le_refl _), rfl, fun ys hy => by rw [I.list_inj hy hq]; exact hx⟩, ⟨⟨u, ?_⟩, hit'.at fun o q => (sb.2 it (Ne.symm hne)).trans q, hne⟩, fun b hb => ?_⟩
    · have e1 : ((i + 1 : Nat) : Int) = (i : Int) + 1 := by omega
      rw [e1]; exact he'
    · have hb' : b < s.heap.objs.size := by
        have e' : b = e ∨ b = it := by simpa using hb
        rcases e' with z | z
        · rw [z]; exact hel
        · rw [z]; exact hil
      rw [upd_ne (Nat.ne_of_lt hb')]
      exact (hf b hb).1
  done := by
    intro X hP hw hK hc i pins s σ H E I hf st hg
    subst hP hw hK
    obtain ⟨⟨old, he⟩, hit, hne⟩ := st
    obtain ⟨xs, hq, hx⟩ := hg
    obtain ⟨its, rv, p, hz⟩ := I.list hq
    obtain ⟨f0, f1, f2, f3, f4, f5⟩ := hf it (by simp)
    have hl := rv.length
    exact wpAny_pyNext_enum_end (I.ok.hd hc) he hit p.isList (by simp; omega) fun h' eb => ⟨rfl, I.turned (t' := s.toks) (fun b o hb q => eb b o hb q) f0 f1 f3 f4 f5⟩
  self := fun A i s Q E st h => let ⟨⟨_, he⟩, _⟩ := st; wpAny_pyIter_enum he h
def iEnum (K : PySem.W.Frag) (ta : TA) : TI := fun σ H R => ta σ H fun vs H1 => ∃ a xs, vs = [.ref a] ∧ SqL K H1 a xs ∧ R (Ite K a) H1
theorem pi_enum {X : Cx} {e : Expr} {ta : TA} {p pos tpos : Pos} {elts : List Expr} {kk : Nat} (hg : Gl X "enumerate") (hm : X.mg "enumerate" = none) (ha : PA X [e] ta) (hs : starEach [e] X.env = [(false, eval e X.env)] := by rfl) :
    PI X (.Tuple elts kk tpos) (.Call (.Name "enumerate" p) [e] [] pos) (iEnum X.K ta) := by
  intro pins s σ H R I h
  refine Call_ (ld_blt I hg hm boot_enumerate (PyProof.Rows.callWith_type1 (thn (ha pos pins s σ H _ I h) fun us s1 ⟨vs, H1, I1, r1, q1⟩ => ?_) hs rfl))
  obtain ⟨a, xs, ex, hq, q⟩ := q1
  subst ex
  cases r1 with
  | cons r rr =>
    cases rr
    cases r
    obtain ⟨its, rv, p', hz⟩ := I1.list hq
    refine call_enumerate_list p'.isList fun h' he hit hsz hk => wpAny_pyIter_enum he ?_
    have I2 : Inv X pins σ H1 { s1 with heap := h' } := I1.kept (t' := s1.toks) hk
    refine ⟨s1.heap.objs.size + 1, [s1.heap.objs.size + 1, s1.heap.objs.size], _, _, H1, rfl, I2, turn_enum a (s1.heap.objs.size + 1) s1.heap.objs.size, ⟨⟨.none, he⟩, hit, Nat.succ_ne_self _⟩, fun b hb => ?_, q⟩
    have e' : b = s1.heap.objs.size + 1 ∨ b = s1.heap.objs.size := by simpa using hb
    have hle : s1.heap.objs.size ≤ b := by
      rcases e' with z | z
      · rw [z]; exact Nat.le_add_right _ _
      · rw [z]; exact Nat.le_refl _
    exact I1.fpOk hle (I1.hok.fresh hle)
/-! ### zip(list, list) -/
end L2

section 
namespace Bits
open PySem PyProof.Rows

end Bits
end 

section 
namespace TL
open PySem PySem.Builtin PySem.Builtin.Str PySem.StrLaws

abbrev tl (x : Str) : List Nat := x.cps.toList
/-! ### the list functions -/
/-- S stands at the head of l -/
def pre (S l : List Nat) : Bool := l.take S.length == S
/-- l cut at each S from the left; k signs are still to be passed over -/
def spl (S : List Nat) : Nat → List Nat → List Nat → List (List Nat)
  | _, acc, [] => [acc]
  | 0, acc, c :: r => if pre S (c :: r) = true then acc :: spl S (S.length - 1) [] r else spl S 0 (acc ++ [c]) r
  | k + 1, acc, _ :: r => spl S k acc r
/-- what stands before the first S, and behind it -/
def par (S : List Nat) : List Nat → List Nat → Option (List Nat × List Nat)
  | _, [] => none
  | acc, c :: r => if pre S (c :: r) = true then some (acc, (c :: r).drop S.length) else par S (acc ++ [c]) r

/-! ### the model's split and partition are these -/
/-! ### computing spl and par -/
/-! ### digits -/
/-! ### words: x.split() -/
end TL
end 

namespace L2
open PySem PySem.Spec PyProof.Rows

section
variable {X : Cx} {pins : List (Addr × Obj)} {σ : St} {H : Hp} {s : Shared} {Q : VK}
end

section
variable {X : Cx}

/-! ### of a text alone -/
/-! ### of a text and a text -/
end

section
variable {X : Cx} {o e : Expr} {to te : TE}
end
end L2

namespace L2
open PySem PySem.Spec PyProof.Rows

section
variable {X : Cx}
end

/-! ### slices of a text -/
theorem IsPart.raw {v : Value} {o : Option Int} (p : IsPart v o) : ∃ l : Option (Int × Tok), v = partValue l ∧ l.map (·.1) = o := by
  cases p with
  | none => exact ⟨none, rfl, rfl⟩
  | int i t => exact ⟨some (i, t), rfl, rfl⟩

end L2

namespace Att
open PySem PySem.W PySem.Calls PyProof.Rows

/-! ### the script -/
/-! ### the attachment: holds_open's last premise (the goal 'hc' behind k_head) from a wpAny of the law's body -/
/-! ### rules over ANY heap (no ledger) from facts about the written part K: the library's own take a ledger (News) for what they write -/
section
variable {prog : Program} {w : World} {A : Around} {E : Value → Shared → Prop} {s : Shared} {K : Frag}

/-! the whole heap as the ledger: makes every rule that writes through a ledger a rule over any heap -/
def ledger (h : Heap) (L d : Addr) : List (Addr × Obj) := (List.range h.objs.size).filterMap fun a => if a = L ∨ a = d then none else (h.get? a).map fun o => (a, o)
end
end Att

namespace L2
open PySem PySem.Spec PyProof.Rows

end L2

namespace L2
open PySem PySem.Spec PyProof.Rows

end L2

/- THE LAST THEOREM (shape; LID, My.* are yours):
   My.Adr: a structure of the addresses that your layer names (classes, functions); My.Txt K t: a structure (Prop) of the equations over K;
   My.txt_mk : {K} {implicit addresses ..} (e1 : nsIn K mainGlobals "law" = some (some (.ref f))) (e2 : K.lookup f = some ⟨oc, od, .func (fnOf "law" "law" params body scope dV kV doc pm an cdv ct), sl⟩) (e3 : codeIn K cdv "law" = true) .. : ∃ t, My.Txt K t

(the tactic k_is has no namespace: write k_is) -/

/-! SHORT WORDS over the layer: a def of the text, its body, what a loop and a test want. -/
namespace L2
open PySem PySem.Spec PyProof.Rows

/-! ### the text by places -/
def defArgs (s : Stmt) : Arguments := match s with
  | .FunctionDef _ a _ _ _ _ _ _ _ _ => a
  | _ => { posonlyargs := [], args := [], vararg := none, kwonlyargs := [], kw_defaults := [], kwarg := none, defaults := [] }
def defBody (s : Stmt) : List Stmt := match s with
  | .FunctionDef _ _ b _ _ _ _ _ _ _ => b
  | _ => []
def defScope (s : Stmt) : Scope := match s with
  | .FunctionDef _ _ _ _ _ _ sc _ _ _ => sc
  | _ => { kind := .function, names := [], isGenerator := false, isCoroutine := false }

/-! ### no exception leaves a def -/
abbrev CX0 : CXT := fun _ _ _ _ _ _ => False
abbrev E0 : XK := fun _ _ _ => False
theorem pass0 {X : Cx} : Passes CX0 X E0 := fun _ _ _ _ _ _ _ h => h.elim

/-! ### a def (or method) of the text as it stands behind the top -/
structure Fun (K : PySem.W.Frag) (x qual : Str) (st : Stmt) (f : Addr) (fd : FuncData) : Prop where
  ex : ∃ (oc : Value) (od : Option Addr) (kV doc pm : Value) (an : Option Addr) (cdv ct : Value) (osl : Array (Option Value)),
    fd = PySem.W.fnOf x qual (defArgs st) (defBody st) (defScope st) .none kV doc pm an cdv ct ∧ K.lookup f = some ⟨oc, od, .func fd, osl⟩ ∧ PySem.W.codeIn K cdv qual = true
  kp : PySem.W.keepIn K (.ref f) = true
section
variable {P : Program} {w : World} {K : PySem.W.Frag} {mg : Str → Option Value} {base : Heap}
/-- THE RULE for a def: its body as a term of rules, and the reading of that term -/
theorem Fun.ok {x qual : Str} {st : Stmt} {f : Addr} {fd : FuncData} {N ps : List Str} {k : Nat} {sp : Sp} (F : Fun K x qual st f fd) (S : FnScope N ps (defScope st)) (len : ∀ vs H Q E, sp vs H Q E → vs.length = ps.length)
    (hbody : ∀ (cdv : Value) (A : Around) (outer : List Env) (s : Shared) (H : Hp) (vs : List V) (Q : VK) (E : XK), Room k (A.deeper (envOfC qual (defScope st) s.heap.objs.size f cdv)) → sp vs H Q E →
      ∃ t, PSs (cxOf CX0 P w K mg base N qual (defScope st) f cdv A outer s H E).nox (defBody st) t ∧ t { nx := fun _ H' => Q .non H', rt := Q } (start N vs) H) : FnOk P w K mg base CX0 (k + 1) f fd ps sp := by
  obtain ⟨oc, od, kV, doc, pm, an, cdv, ct, osl, rfl, lk, hcd⟩ := F.ex
  refine fn_of lk hcd S len fun A outer s H vs Q E hr hsp => ?_
  obtain ⟨t, h, q⟩ := hbody cdv A outer s H vs Q E hr hsp
  exact ⟨t, h.nox, q⟩
/-- how its arguments bind (no defaults): h is «fun _ _ _ _ _ _ us hl => match us, hl with | [_, _], _ => rfl», one _ a parameter -/
theorem Fun.binds {x qual : Str} {st : Stmt} {f : Addr} {fd : FuncData} {ps : List Str} (F : Fun K x qual st f fd)
    (h : ∀ (kV doc pm : Value) (an : Option Addr) (cdv ct : Value) (us : List Value), us.length = ps.length → bindArgs (PySem.W.fnOf x qual (defArgs st) (defBody st) (defScope st) .none kV doc pm an cdv ct) ⟨us, []⟩ = pure (ps.zip us)) : Binds K fd ps [] := by
  obtain ⟨oc, od, kV, doc, pm, an, cdv, ct, osl, rfl, lk, hcd⟩ := F.ex
  exact .all (h kV doc pm an cdv ct)
theorem fun_mk {x qual : Str} {st : Stmt} {f : Addr} {oc : Value} {od an : Option Addr} {osl : Array (Option Value)} {kV doc pm cdv ct : Value} (l : K.lookup f = some ⟨oc, od, .func (PySem.W.fnOf x qual (defArgs st) (defBody st) (defScope st) .none kV doc pm an cdv ct), osl⟩)
    (c : PySem.W.codeIn K cdv qual = true) (k : PySem.W.keepIn K (.ref f) = true) : Fun K x qual st f (PySem.W.fnOf x qual (defArgs st) (defBody st) (defScope st) .none kV doc pm an cdv ct) := ⟨⟨oc, od, kV, doc, pm, an, cdv, ct, osl, rfl, l, c⟩, k⟩
end
theorem hu_of {A : Around} {k : Nat} (hr : Room k A) : A.units + 1 < cLine := Nat.lt_of_le_of_lt (Nat.add_le_add_left (by decide : 1 ≤ 64) _) hr.units
theorem small1000 {n : Nat} (h : n ≤ 1000) : n < sizeLine := Nat.lt_of_le_of_lt h (by decide)

/-! ### expressions in short: the name that stands in the i-th slot -/
section
variable {X : Cx}
theorem pv (i : Nat) {x : Str} {pos : Pos} (hN : X.N[i]? = some x := by rfl) (hv : Vis X.env.scope x := by first | exact Or.inl rfl | exact Or.inr (Or.inl rfl) | exact Or.inr (Or.inr rfl)) (hd : (x == ("__debug__" : Str)) = false := by decide)
    (hcd : (x == ("__classdict__" : Str)) = false := by decide) : PE X (.Name x pos) (tVar i) := pe_var hN hv hd hcd
end

/-! ### tests -/
theorem iteF {A B : Prop} (h : B) : if false = true then A else B := by
  rw [if_neg Bool.false_ne_true]
  exact h
theorem iteT {A B : Prop} (h : A) : if true = true then A else B := by
  rw [if_pos rfl]
  exact h
theorem ite2 {c A B : Prop} [Decidable c] (h1 : c → A) (h2 : ¬ c → B) : if c then A else B := by
  by_cases h : c
  · rw [if_pos h]
    exact h1 h
  · rw [if_neg h]
    exact h2 h
/-! ### heaps -/
/-- all that was tracked is as it was -/
def Same (H H' : Hp) : Prop := ∀ b o, H b = some o → H' b = some o
theorem Same.refl (H : Hp) : Same H H := fun _ _ h => h
theorem Same.trans {H H1 H2 : Hp} (a : Same H H1) (b : Same H1 H2) : Same H H2 := fun c o h => b c o (a c o h)
theorem Same.free {H H' : Hp} (e : Same H H') {l : Addr} (h : H' l = Option.none) : H l = Option.none := by
  cases q : H l with
  | none => rfl
  | some o =>
    rw [e l o q] at h
    cases h
theorem Same.seq {K : PySem.W.Frag} {H H' : Hp} {a : Addr} {xs : List V} (e : Same H H') (h : SqL K H a xs) : SqL K H' a xs := by
  rcases h with (h | ⟨o, h⟩) | h
  · exact .inl (.inl (e _ _ h))
  · exact .inl (.inr ⟨o, e _ _ h⟩)
  · exact .inr h

/-! ### a dict's pairs: keys that differ -/
section
variable {κ : Type} [DecidableEq κ]
end
/-! ### lists -/
theorem at_of {xs : List V} {z : Int} {j : Nat} {v : V} (e : z = (j : Int)) (h : xs[j]? = some v) : atI xs z = some v := by
  rw [e]
  exact atI_nat h
/-- a new instance and its __init__ leave all that was tracked as it was -/
theorem Same.made {H H1 : Hp} {x dx C : Addr} (nx : H x = Option.none) (nd : H dx = Option.none) (k : ∀ b o, (upd (upd H dx (.own x)) x (.ins C dx [])) b = some o → b ≠ x → H1 b = some o) : Same H H1 := fun b o e =>
  k b o (by rw [upd_ne (ne_of_none e nx), upd_ne (ne_of_none e nd)]; exact e) (ne_of_none e nx)
end L2

section
set_option Elab.async false
set_option linter.all false
set_option maxRecDepth 100000
set_option maxHeartbeats 2000000
namespace L2
open PySem PySem.Spec PyProof.Rows
open PySem.W (WData Codec OpenSpec Well WellAll ReadsW ReadsAllW)
/-! ### an answer as data -/
mutual
/-- x stands for the datum d, lists and tuples all the way -/
inductive Dw (K : PySem.W.Frag) (H : Hp) : V → WData → Prop
  | non : Dw K H .non .none
  | bl (b : Bool) : Dw K H (.bl b) (.bool b)
  | int (i : Int) : Dw K H (.int i) (.int i)
  | str (x : Str) : Dw K H (.str x) (.str x)
  | byt (b : Array UInt8) : Dw K H (.byt b) (.bytes b.toList)
  | lst {a : Addr} {xs : List V} {ds : List WData} : SqL K H a xs → DwAll K H xs ds → Dw K H (.ref a) (.list ds)
  | tup {a : Addr} {xs : List V} {ds : List WData} : SqT K H a xs → DwAll K H xs ds → Dw K H (.ref a) (.tuple ds)
inductive DwAll (K : PySem.W.Frag) (H : Hp) : List V → List WData → Prop
  | nil : DwAll K H [] []
  | cons {v : V} {vs : List V} {d : WData} {ds : List WData} : Dw K H v d → DwAll K H vs ds → DwAll K H (v :: vs) (d :: ds)
end
theorem dw_ints {K : PySem.W.Frag} {H : Hp} : ∀ ns : List Int, DwAll K H (ns.map V.int) (ns.map WData.int)
  | [] => .nil
  | n :: r => .cons (.int n) (dw_ints r)
theorem ints_dw {K : PySem.W.Frag} {H : Hp} : ∀ (ns : List Int) (xs : List V), DwAll K H xs (ns.map WData.int) → xs = ns.map V.int
  | [], xs, h => by
    cases h
    rfl
  | n :: r, xs, h => by
    cases h with
    | cons h1 h2 =>
      cases h1
      rw [ints_dw r _ h2] <;> rfl
section
variable {P : Program} {w : World} {K : PySem.W.Frag} {H : Hp} {h : Heap} {R : PySem.W.WRecords} {cl : Str → Option Addr}
theorem sqL_at {a : Addr} {xs : List V} (hok : HOk P w H h) (KX : K.In h) (q : SqL K H a xs) : ∃ (its : List Value) (o : Obj) (n : Nat), Vals xs its ∧ h.get? a = some o ∧ o.cls = .type "list" ∧ o.data = .seq its.toArray n := by
  rcases q with q | ⟨o, its, n, e, hc, _, hd, _, hv⟩
  · obtain ⟨_, its, n, hv, e⟩ := (show ObjOk P w H h a (.lst xs) from q.ok hok)
    exact ⟨its, _, n, hv, e, rfl, rfl⟩
  · exact ⟨its.toList, o, n, hv, KX _ _ e, hc, by simp [hd]⟩
theorem sqT_at {a : Addr} {xs : List V} (hok : HOk P w H h) (KX : K.In h) (q : SqT K H a xs) : ∃ (its : List Value) (o : Obj) (n : Nat), Vals xs its ∧ h.get? a = some o ∧ o.cls = .type "tuple" ∧ o.data = .seq its.toArray n := by
  rcases q with q | ⟨o, its, n, e, hc, hd, _, hv⟩
  · obtain ⟨_, its, hv, o, e, hc, n, hd⟩ := (show ObjOk P w H h a (.tup xs) from q.ok hok)
    exact ⟨its, o, n, hv, e, hc, hd⟩
  · exact ⟨its.toList, o, n, hv, KX _ _ e, hc, by simp [hd]⟩
mutual
theorem Dw.reads (hok : HOk P w H h) (KX : K.In h) : ∀ (d : WData) (v : V) (u : Value), Dw K H v d → RelV v u → ∃ as, ReadsW R cl h u d as
  | .none, _, _, x, r => by
    cases x
    cases r
    exact ⟨_, ReadsW.none⟩
  | .bool b, _, _, x, r => by
    cases x
    cases r
    exact ⟨_, ReadsW.bool b⟩
  | .int i, _, _, x, r => by
    cases x
    obtain ⟨t, rfl⟩ := r
    exact ⟨_, ReadsW.int i t⟩
  | .str s, _, _, x, r => by
    cases x
    obtain ⟨t, rfl⟩ := r
    exact ⟨_, ReadsW.str s t⟩
  | .bytes b, _, _, x, r => by
    cases x
    obtain ⟨t, rfl⟩ := r
    exact ⟨_, ReadsW.bytes _ t⟩
  | .list ds, _, _, x, r => by
    cases x with
    | lst hs ha =>
      cases r
      obtain ⟨its, o, n, rv, ho, hc, hd⟩ := sqL_at hok KX hs
      obtain ⟨as, hr⟩ := Dw.readsAll hok KX ds _ its ha rv
      exact ⟨_, ReadsW.list ho hc hd hr⟩
  | .tuple ds, _, _, x, r => by
    cases x with
    | tup hs ha =>
      cases r
      obtain ⟨its, o, n, rv, ho, hc, hd⟩ := sqT_at hok KX hs
      obtain ⟨as, hr⟩ := Dw.readsAll hok KX ds _ its ha rv
      exact ⟨_, ReadsW.tuple ho hc hd hr⟩
  | .float _, _, _, x, _ => by cases x
  | .dict _, _, _, x, _ => by cases x
  | .bytearray _, _, _, x, _ => by cases x
  | .set _, _, _, x, _ => by cases x
  | .frozenset _, _, _, x, _ => by cases x
  | .obj _ _, _, _, x, _ => by cases x
theorem Dw.readsAll (hok : HOk P w H h) (KX : K.In h) : ∀ (ds : List WData) (vs : List V) (us : List Value), DwAll K H vs ds → Vals vs us → ∃ as, ReadsAllW R cl h us ds as
  | [], _, _, x, r => by
    cases x
    cases r
    exact ⟨_, ReadsAllW.nil⟩
  | d :: ds, _, _, x, r => by
    cases x with
    | cons h1 h2 =>
      cases r with
      | cons r1 r2 =>
        obtain ⟨as, q1⟩ := Dw.reads hok KX d _ _ h1 r1
        obtain ⟨bs, q2⟩ := Dw.readsAll hok KX ds _ _ h2 r2
        exact ⟨_, ReadsAllW.cons q1 q2⟩
end
end
/-! ### the arguments -/
mutual
/-- data that a codec tells -/
def plW : WData → Bool
  | .none => true
  | .bool _ => true
  | .int _ => true
  | .str _ => true
  | .bytes _ => true
  | .list xs => plWs xs
  | .tuple xs => plWs xs
  | _ => false
def plWs : List WData → Bool
  | [] => true
  | x :: r => plW x && plWs r
end
theorem plWs_map {α : Type} {f : α → WData} (h : ∀ a, plW (f a) = true) : ∀ l : List α, plWs (l.map f) = true
  | [] => rfl
  | x :: r => by
    show (plW (f x) && plWs (r.map f)) = true
    rw [h x, plWs_map h r] <;> rfl
theorem pl_enc : ∀ (c : Codec) (a : c.denote), plW (c.enc a) = true
  | .unit, _ => rfl
  | .bool, _ => rfl
  | .int _ _, _ => rfl
  | .nat _ _, _ => rfl
  | .u8, _ => rfl
  | .bytes _ _, _ => rfl
  | .text _ _ _ _, _ => rfl
  | .list _ _ c, a => plWs_map (fun x => pl_enc c x) a
  | .pair c d, a => by
    show (plW (c.enc a.1) && (plW (d.enc a.2) && true)) = true
    rw [pl_enc c a.1, pl_enc d a.2] <;> rfl
  | .triple c d e, a => by
    show (plW (c.enc a.1) && (plW (d.enc a.2.1) && (plW (e.enc a.2.2) && true))) = true
    rw [pl_enc c a.1, pl_enc d a.2.1, pl_enc e a.2.2] <;> rfl
  | .option c, none => rfl
  | .option c, some x => pl_enc c x
theorem pl_encAll : ∀ (cs : List Codec) (a : Codec.denoteAll cs), plWs (Codec.encAll cs a) = true
  | [], _ => rfl
  | c :: cs, a => by
    show (plW (c.enc a.1) && plWs (Codec.encAll cs a.2)) = true
    rw [pl_enc c a.1, pl_encAll cs a.2] <;> rfl
theorem weight_mem : ∀ {xs : List WData} {d : WData}, d ∈ xs → d.weight ≤ WData.weightAll xs
  | [], d, h => absurd h (by simp)
  | x :: r, d, h => by
    show d.weight ≤ x.weight + 1 + WData.weightAll r
    rcases List.mem_cons.mp h with e | m
    · rw [e]
      omega
    · have z := weight_mem m
      omega
def toV : Value → V
  | .none => .non
  | .bool b => .bl b
  | .int i _ => .int i
  | .str x _ => .str x
  | .bytes b _ => .byt b
  | .ref a => .ref a
  | _ => .non
/-- a value of the arguments, its objects among A -/
def OkU (A : List Addr) : Value → Prop
  | .none => True
  | .bool _ => True
  | .int _ _ => True
  | .str _ _ => True
  | .bytes _ _ => True
  | .ref a => a ∈ A
  | _ => False
theorem OkU.mono {A B : List Addr} (h : ∀ a ∈ A, a ∈ B) : ∀ {u : Value}, OkU A u → OkU B u := fun {u} x => by
  cases u with
  | ref a => exact h a x
  | none => trivial
  | bool b => trivial
  | int i t => trivial
  | str s t => trivial
  | bytes b t => trivial
  | _ => exact False.elim x
theorem relV_toV {A : List Addr} {u : Value} (x : OkU A u) : RelV (toV u) u := by
  cases u with
  | ref a => rfl
  | none => rfl
  | bool b => rfl
  | int i t => exact ⟨t, rfl⟩
  | str s t => exact ⟨t, rfl⟩
  | bytes b t => exact ⟨t, rfl⟩
  | _ => exact False.elim x
theorem vals_toV {A : List Addr} : ∀ {vs : List Value}, (∀ u ∈ vs, OkU A u) → Vals (vs.map toV) vs
  | [], _ => .nil
  | u :: r, h => .cons (relV_toV (h u (List.mem_cons_self ..))) (vals_toV fun x hx => h x (List.mem_cons_of_mem _ hx))
/-- an object of the arguments -/
def ArgOb (h : Heap) (A : List Addr) (a : Addr) : Prop := ∃ vs : List Value, vs.length ≤ sizeLine ∧ (∀ u ∈ vs, OkU A u) ∧
  (h.get? a = some { cls := .type "list", data := .seq vs.toArray } ∨ h.get? a = some { cls := .type "tuple", data := .seq vs.toArray })
theorem ArgOb.mono {h : Heap} {A B : List Addr} {a : Addr} (k : ∀ a ∈ A, a ∈ B) (x : ArgOb h A a) : ArgOb h B a := by
  obtain ⟨vs, h1, h2, h3⟩ := x
  exact ⟨vs, h1, fun u hu => (h2 u hu).mono k, h3⟩
theorem wellAll_len {P : Params} {h : Heap} : ∀ {vs : List Value} {ds : List WData}, WellAll P h vs ds → vs.length = ds.length
  | _, _, .nil => rfl
  | _, _, .cons _ b => by
    show _ + 1 = _ + 1
    rw [wellAll_len b]
theorem well_list {P : Params} {h : Heap} {v : Value} {ds : List WData} (x : Well P h v (.list ds)) : ∃ (a : Addr) (vs : List Value), v = .ref a ∧ h.get? a = some { cls := .type "list", data := .seq vs.toArray } ∧ WellAll P h vs ds := by
  cases x with
  | list ho hall => exact ⟨_, _, rfl, ho, hall⟩
theorem well_tuple {P : Params} {h : Heap} {v : Value} {ds : List WData} (x : Well P h v (.tuple ds)) : ∃ (a : Addr) (vs : List Value), v = .ref a ∧ h.get? a = some { cls := .type "tuple", data := .seq vs.toArray } ∧ WellAll P h vs ds := by
  cases x with
  | tuple ho hall => exact ⟨_, _, rfl, ho, hall⟩
theorem well_cons {P : Params} {h : Heap} {us : List Value} {d : WData} {ds : List WData} (x : WellAll P h us (d :: ds)) : ∃ (v : Value) (vs : List Value), us = v :: vs ∧ Well P h v d ∧ WellAll P h vs ds := by
  cases x with
  | cons a b => exact ⟨_, _, rfl, a, b⟩
theorem line_of {n : Nat} (h : n ≤ 1048576) : n ≤ sizeLine := Nat.le_trans h (by decide)
section
variable {P : Params} {h : Heap}
mutual
theorem area_one : ∀ (d : WData) (v : Value), Well P h v d → plW d = true → d.weight ≤ 1048576 → ∃ A : List Addr, OkU A v ∧ ∀ a ∈ A, ArgOb h A a
  | .none, _, x, _, _ => by
    cases x
    exact ⟨[], trivial, fun a m => absurd m (by simp)⟩
  | .bool b, _, x, _, _ => by
    cases x
    exact ⟨[], trivial, fun a m => absurd m (by simp)⟩
  | .int i, _, x, _, _ => by
    cases x
    exact ⟨[], trivial, fun a m => absurd m (by simp)⟩
  | .str s, _, x, _, _ => by
    cases x
    exact ⟨[], trivial, fun a m => absurd m (by simp)⟩
  | .bytes b, _, x, _, _ => by
    cases x
    exact ⟨[], trivial, fun a m => absurd m (by simp)⟩
  | .list ds, _, x, p, z => by
    obtain ⟨a, vs, rfl, ho, hall⟩ := well_list x
    have z2 : WData.weightAll ds ≤ 1048576 := z
    obtain ⟨A, h1, h2⟩ := area_all ds _ hall p fun d hd => Nat.le_trans (weight_mem hd) z2
    have k : ∀ b ∈ A, b ∈ a :: A := fun b hb => List.mem_cons_of_mem _ hb
    refine ⟨a :: A, List.mem_cons_self .., fun b hb => ?_⟩
    rcases List.mem_cons.mp hb with e | m
    · rw [e]
      exact ⟨vs, line_of (by rw [wellAll_len hall]; exact Nat.le_trans (PySem.W.length_le_weightAllW ds) z2), fun u hu => (h1 u hu).mono k, .inl ho⟩
    · exact (h2 b m).mono k
  | .tuple ds, _, x, p, z => by
    obtain ⟨a, vs, rfl, ho, hall⟩ := well_tuple x
    have z2 : WData.weightAll ds ≤ 1048576 := z
    obtain ⟨A, h1, h2⟩ := area_all ds _ hall p fun d hd => Nat.le_trans (weight_mem hd) z2
    have k : ∀ b ∈ A, b ∈ a :: A := fun b hb => List.mem_cons_of_mem _ hb
    refine ⟨a :: A, List.mem_cons_self .., fun b hb => ?_⟩
    rcases List.mem_cons.mp hb with e | m
    · rw [e]
      exact ⟨vs, line_of (by rw [wellAll_len hall]; exact Nat.le_trans (PySem.W.length_le_weightAllW ds) z2), fun u hu => (h1 u hu).mono k, .inr ho⟩
    · exact (h2 b m).mono k
  | .float _, _, _, p, _ => Bool.noConfusion (show false = true from p)
  | .dict _, _, _, p, _ => Bool.noConfusion (show false = true from p)
  | .bytearray _, _, _, p, _ => Bool.noConfusion (show false = true from p)
  | .set _, _, _, p, _ => Bool.noConfusion (show false = true from p)
  | .frozenset _, _, _, p, _ => Bool.noConfusion (show false = true from p)
  | .obj _ _, _, _, p, _ => Bool.noConfusion (show false = true from p)
theorem area_all : ∀ (ds : List WData) (vs : List Value), WellAll P h vs ds → plWs ds = true → (∀ d ∈ ds, d.weight ≤ 1048576) → ∃ A : List Addr, (∀ u ∈ vs, OkU A u) ∧ ∀ a ∈ A, ArgOb h A a
  | [], _, x, _, _ => by
    cases x
    exact ⟨[], fun u m => absurd m (by simp), fun a m => absurd m (by simp)⟩
  | d :: ds, _, x, p, z => by
    obtain ⟨v, vs, rfl, x1, x2⟩ := well_cons x
    have q : plW d = true ∧ plWs ds = true := Bool.and_eq_true_iff.mp p
    obtain ⟨A, a1, a2⟩ := area_one d v x1 q.1 (z d (List.mem_cons_self ..))
    obtain ⟨B, b1, b2⟩ := area_all ds vs x2 q.2 fun e he => z e (List.mem_cons_of_mem _ he)
    have kA : ∀ b ∈ A, b ∈ A ++ B := fun b hb => List.mem_append.mpr (.inl hb)
    have kB : ∀ b ∈ B, b ∈ A ++ B := fun b hb => List.mem_append.mpr (.inr hb)
    refine ⟨A ++ B, fun u hu => ?_, fun b hb => ?_⟩
    · rcases List.mem_cons.mp hu with e | m
      · rw [e]
        exact a1.mono kA
      · exact (b1 u m).mono kB
    · rcases List.mem_append.mp hb with m | m
      · exact (a2 b m).mono kA
      · exact (b2 b m).mono kB
end
end
/-- what is tracked of an argument's object -/
def hoOf (o : Obj) : Option HO := match o.data with
  | .seq vs _ => if (o.cls == Value.type "list") = true then some (.frz o (.lst (vs.toList.map toV))) else some (.frz o (.tup (vs.toList.map toV)))
  | _ => none
def argH (K : PySem.W.Frag) (h : Heap) (A : List Addr) : Hp := fun b => if b ∈ A then (if (K.lookup b).isNone = true then (h.get? b).bind hoOf else none) else none
/-- nothing is tracked but what is known to the object -/
def OnlyF (H : Hp) : Prop := ∀ b, H b = none ∨ ∃ o u, H b = some (.frz o u)
theorem hoOf_lst (vs : List Value) : hoOf { cls := .type "list", data := .seq vs.toArray } = some (.frz { cls := .type "list", data := .seq vs.toArray } (.lst (vs.map toV))) := by
  show (if (Value.type "list" == Value.type "list") = true then some (HO.frz { cls := .type "list", data := .seq vs.toArray } (.lst (vs.toArray.toList.map toV))) else some (HO.frz { cls := .type "list", data := .seq vs.toArray } (.tup (vs.toArray.toList.map toV)))) = _
  rw [if_pos (beq_self_eq_true _)]
theorem hoOf_tup (vs : List Value) : hoOf { cls := .type "tuple", data := .seq vs.toArray } = some (.frz { cls := .type "tuple", data := .seq vs.toArray } (.tup (vs.map toV))) := by
  show (if (Value.type "tuple" == Value.type "list") = true then some (HO.frz { cls := .type "tuple", data := .seq vs.toArray } (.lst (vs.toArray.toList.map toV))) else some (HO.frz { cls := .type "tuple", data := .seq vs.toArray } (.tup (vs.toArray.toList.map toV)))) = _
  rw [if_neg (by decide)]
section
variable {P : Program} {w : World} {K : PySem.W.Frag} {h : Heap} {A : List Addr}
theorem argH_at {b : Addr} {o : Obj} (hb : b ∈ A) (hk : K.lookup b = none) (e : h.get? b = some o) : argH K h A b = hoOf o := by
  unfold argH
  rw [if_pos hb, hk, if_pos (show (none : Option Obj).isNone = true from rfl), e] <;> rfl
theorem of_argH {b : Addr} {u : HO} (q : argH K h A b = some u) : b ∈ A ∧ K.lookup b = none := by
  unfold argH at q
  by_cases hb : b ∈ A
  · rw [if_pos hb] at q
    cases hk : K.lookup b with
    | none => exact ⟨hb, rfl⟩
    | some o =>
      rw [hk, if_neg (by simp)] at q
      cases q
  · rw [if_neg hb] at q
    cases q
/-- what stands tracked -/
theorem argH_is (ar : ∀ a ∈ A, ArgOb h A a) {b : Addr} {u : HO} (q : argH K h A b = some u) : K.lookup b = none ∧ ∃ vs : List Value, vs.length ≤ sizeLine ∧ (∀ u ∈ vs, OkU A u) ∧
    ((h.get? b = some { cls := .type "list", data := .seq vs.toArray } ∧ u = .frz { cls := .type "list", data := .seq vs.toArray } (.lst (vs.map toV))) ∨
     (h.get? b = some { cls := .type "tuple", data := .seq vs.toArray } ∧ u = .frz { cls := .type "tuple", data := .seq vs.toArray } (.tup (vs.map toV)))) := by
  obtain ⟨hb, hk⟩ := of_argH q
  obtain ⟨vs, h1, h2, h3⟩ := ar b hb
  refine ⟨hk, vs, h1, h2, ?_⟩
  rcases h3 with e | e
  · rw [argH_at hb hk e, hoOf_lst] at q
    exact .inl ⟨e, (Option.some.inj q).symm⟩
  · rw [argH_at hb hk e, hoOf_tup] at q
    exact .inr ⟨e, (Option.some.inj q).symm⟩
theorem argH_only (ar : ∀ a ∈ A, ArgOb h A a) : OnlyF (argH K h A) := fun b => by
  cases q : argH K h A b with
  | none => exact .inl rfl
  | some u =>
    obtain ⟨_, vs, _, _, ⟨_, e⟩ | ⟨_, e⟩⟩ := argH_is ar q
    · exact .inr ⟨_, _, by rw [e]⟩
    · exact .inr ⟨_, _, by rw [e]⟩
theorem argH_ok (ar : ∀ a ∈ A, ArgOb h A a) : HOk P w (argH K h A) h := fun b u q => by
  obtain ⟨_, vs, h1, h2, ⟨e, rfl⟩ | ⟨e, rfl⟩⟩ := argH_is ar q
  · exact ⟨e, by rw [List.length_map]; exact h1, vs, _, vals_toV h2, e⟩
  · exact ⟨e, by rw [List.length_map]; exact h1, vs, vals_toV h2, _, e, rfl, _, rfl⟩
theorem seq_inj {c c' : Value} {vs us : List Value} (e : (some { cls := c, data := .seq vs.toArray } : Option Obj) = some { cls := c', data := .seq us.toArray }) : c = c' ∧ vs = us := by
  have e1 := Option.some.inj e
  have e2 : c = c' := congrArg Obj.cls e1
  have e3 : Data.seq vs.toArray = Data.seq us.toArray := congrArg Obj.data e1
  injection e3 with e4
  refine ⟨e2, ?_⟩
  have e5 := congrArg Array.toList e4
  simpa using e5
/-- a list argument -/
theorem argL (KX : K.In h) (ar : ∀ a ∈ A, ArgOb h A a) {a : Addr} {vs : List Value} (ha : a ∈ A) (e : h.get? a = some { cls := .type "list", data := .seq vs.toArray }) : (∀ u ∈ vs, OkU A u) ∧ SqL K (argH K h A) a (vs.map toV) := by
  obtain ⟨us, h1, h2, h3⟩ := ar a ha
  have hu : us = vs := by
    rcases h3 with q | q
    · rw [e] at q
      exact (seq_inj q).2.symm
    · rw [e] at q
      exact absurd (Value.type.inj (seq_inj q).1) (by decide)
  subst hu
  refine ⟨h2, ?_⟩
  cases hk : K.lookup a with
  | none => exact .inl (.inr ⟨_, by rw [argH_at ha hk e, hoOf_lst]⟩)
  | some o =>
    have e2 := KX a o hk
    rw [e] at e2
    obtain rfl := Option.some.inj e2
    exact .inr ⟨_, us.toArray, _, hk, rfl, rfl, rfl, by rw [List.size_toArray]; exact h1, by simpa using vals_toV h2⟩
theorem argT (KX : K.In h) (ar : ∀ a ∈ A, ArgOb h A a) {a : Addr} {vs : List Value} (ha : a ∈ A) (e : h.get? a = some { cls := .type "tuple", data := .seq vs.toArray }) : (∀ u ∈ vs, OkU A u) ∧ SqT K (argH K h A) a (vs.map toV) := by
  obtain ⟨us, h1, h2, h3⟩ := ar a ha
  have hu : us = vs := by
    rcases h3 with q | q
    · rw [e] at q
      exact absurd (Value.type.inj (seq_inj q).1) (by decide)
    · rw [e] at q
      exact (seq_inj q).2.symm
  subst hu
  refine ⟨h2, ?_⟩
  cases hk : K.lookup a with
  | none => exact .inl (.inr ⟨_, by rw [argH_at ha hk e, hoOf_tup]⟩)
  | some o =>
    have e2 := KX a o hk
    rw [e] at e2
    obtain rfl := Option.some.inj e2
    exact .inr ⟨_, us.toArray, _, hk, rfl, rfl, by rw [List.size_toArray]; exact h1, by simpa using vals_toV h2⟩
mutual
theorem dw_one {Pm : Params} (KX : K.In h) (ar : ∀ a ∈ A, ArgOb h A a) : ∀ (d : WData) (v : Value), Well Pm h v d → plW d = true → OkU A v → Dw K (argH K h A) (toV v) d
  | .none, _, x, _, _ => by
    cases x
    exact .non
  | .bool b, _, x, _, _ => by
    cases x
    exact .bl b
  | .int i, _, x, _, _ => by
    cases x
    exact .int i
  | .str s, _, x, _, _ => by
    cases x
    exact .str s
  | .bytes b, _, x, _, _ => by
    cases x
    have z := Dw.byt (K := K) (H := argH K h A) b.toArray
    exact z
  | .list ds, _, x, p, hu => by
    obtain ⟨a, vs, rfl, ho, hall⟩ := well_list x
    obtain ⟨h2, hs⟩ := argL KX ar hu ho
    exact .lst hs (dw_all KX ar ds _ hall p h2)
  | .tuple ds, _, x, p, hu => by
    obtain ⟨a, vs, rfl, ho, hall⟩ := well_tuple x
    obtain ⟨h2, hs⟩ := argT KX ar hu ho
    exact .tup hs (dw_all KX ar ds _ hall p h2)
  | .float _, _, _, p, _ => Bool.noConfusion (show false = true from p)
  | .dict _, _, _, p, _ => Bool.noConfusion (show false = true from p)
  | .bytearray _, _, _, p, _ => Bool.noConfusion (show false = true from p)
  | .set _, _, _, p, _ => Bool.noConfusion (show false = true from p)
  | .frozenset _, _, _, p, _ => Bool.noConfusion (show false = true from p)
  | .obj _ _, _, _, p, _ => Bool.noConfusion (show false = true from p)
theorem dw_all {Pm : Params} (KX : K.In h) (ar : ∀ a ∈ A, ArgOb h A a) : ∀ (ds : List WData) (vs : List Value), WellAll Pm h vs ds → plWs ds = true → (∀ u ∈ vs, OkU A u) → DwAll K (argH K h A) (vs.map toV) ds
  | [], _, x, _, _ => by
    cases x
    exact .nil
  | d :: ds, _, x, p, hu => by
    obtain ⟨v, vs, rfl, x1, x2⟩ := well_cons x
    have q : plW d = true ∧ plWs ds = true := Bool.and_eq_true_iff.mp p
    exact .cons (dw_one KX ar d v x1 q.1 (hu _ (List.mem_cons_self ..))) (dw_all KX ar ds vs x2 q.2 fun u m => hu u (List.mem_cons_of_mem _ m))
end
end
/-! ### the call -/
theorem spec_call {P : Program} {w : World} {K : PySem.W.Frag} {mg mb : Str → Option Value} {CX : CXT} {k : Nat} {fa : Addr} {fd : FuncData} {ps : List Str} {sp : Sp} {s₁ : Shared} {vals : List Value} {ds : List WData} {R : PySem.W.WRecords} {cl : Str → Option Addr} {d0 : WData}
    (KX : K.In s₁.heap) (hns : s₁.heap.Ns mainGlobals mg) (hb : s₁.heap.Ns builtinsNs mb) (hbb : ∀ x : Str, x ≠ "__name__" → mb x = bootBuiltins x) (hlim : s₁.heap.NoLimit) (hg : s₁.gens = #[])
    (hwl : WellAll w.params s₁.heap vals ds) (hpl : plWs ds = true) (hwt : ∀ d ∈ ds, d.weight ≤ 1048576) (hr : Room k callerA)
    (F : ∀ base : Heap, K.In base → base.Ns mainGlobals mg → FnOk P w K mg base CX k fa fd ps sp) (hbind : ∀ (s : Shared) (us : List Value), us.length = ps.length → BindsTo s fd ⟨us, []⟩ (ps.zip us)) (hlen : ds.length = ps.length)
    (hsp : ∀ (H : Hp) (xs : List V), OnlyF H → DwAll K H xs ds → sp xs H (fun v H' => Dw K H' v d0) fun _ _ _ => False)
    (hCX : ∀ H e s', CX [] H s₁ (fun _ _ _ => False) e s' → False) :
    codeAny (model P w) callerA (.call (.ref fa) ⟨vals, []⟩) (fun r s' => ∃ u as, r = .ok (.ret u) ∧ ReadsW R cl s'.heap u d0 as ∧ OldK s₁.heap s'.heap ∧ s'.os = s₁.os ∧ AllBare s'.gens) s₁ := by
  obtain ⟨A, ho, ar⟩ := area_all ds vals hwl hpl hwt
  have hO : OnlyF (argH K s₁.heap A) := argH_only ar
  have hok : HOk P w (argH K s₁.heap A) s₁.heap := argH_ok ar
  have hS := dw_all KX ar ds vals hwl hpl ho
  have hV := vals_toV ho
  have hK : ∀ b u, argH K s₁.heap A b = some u → K.lookup b = none := fun b u q => (argH_is ar q).1
  have noA : ∀ {b : Addr} {o : Obj} {es : Array DictEntry} {ep : Nat}, s₁.heap.get? b = some o → o.data = .dict es ep → argH K s₁.heap A b = none := fun {b o es ep} e d => by
    cases q : argH K s₁.heap A b with
    | none => rfl
    | some u =>
      obtain ⟨_, vs, _, _, ⟨e2, _⟩ | ⟨e2, _⟩⟩ := argH_is ar q
      · rw [e2] at e
        cases e
        have d' : Data.seq vs.toArray _ = Data.dict es ep := d
        cases d'
      · rw [e2] at e
        cases e
        have d' : Data.seq vs.toArray _ = Data.dict es ep := d
        cases d'
  generalize argH K s₁.heap A = H at hO hok hS hK noA
  have base_of : ∀ {b : Addr} {o : Obj}, s₁.heap.get? b = some o → H b = none → (hidT s₁.heap H).get? b = some o := fun e n => hidT_get e n
  have nsK : ∀ {b : Addr} {m : Str → Option Value}, s₁.heap.Ns b m → (hidT s₁.heap H).Ns b m := fun {b m} ⟨o, es, ep, e, d, r⟩ => ⟨o, es, ep, base_of e (noA e d), d, r⟩
  have nK : ∀ b o, K.lookup b = some o → H b = none := fun b o e => by
    cases q : H b with
    | none => rfl
    | some u =>
      rw [hK b u q] at e
      cases e
  have hKb : K.In (hidT s₁.heap H) := fun b o e => base_of (KX b o e) (nK b o e)
  have hM : Mod K mg (hidT s₁.heap H) := ⟨hKb, nsK hns, ⟨mb, nsK hb, hbb⟩, let ⟨mc, h1, h2⟩ := hlim; ⟨mc, nsK h1, h2⟩⟩
  have e0 : Env0 P w K mg (hidT s₁.heap H) callerA [] s₁ H := ⟨rfl, hM, fun b o e => of_hidT e, Nat.le_of_eq (hidT_size _ _), trivial, fun b hb => absurd (show b ∈ ([] : List Addr) from hb) (by simp), hok, .of_eq hg⟩
  have hl : vals.length = ps.length := by rw [wellAll_len hwl]; exact hlen
  refine codeAny_mono ((F _ hKb (nsK hns)).run callerA [] s₁ H ⟨vals, []⟩ vals (vals.map toV) _ _ hr e0 (hbind s₁ vals hl) hV (hsp H _ hO hS)) fun r s' x => ?_
  cases r with
  | error e => exact (hCX H e s' x).elim
  | ok fl =>
    cases fl with
    | next => exact False.elim x
    | brk => exact False.elim x
    | cont => exact False.elim x
    | ret u =>
      obtain ⟨v, H', os, bare, un, hok', r', q⟩ := x
      have kept : ∀ b o, s₁.heap.get? b = some o → s'.heap.get? b = some o := fun b o e => by
        cases q2 : H b with
        | none => exact un.keep b o e q2 (by intro z; exact absurd (show b ∈ ([] : List Addr) from z) (by simp)) (by simp)
        | some u2 =>
          rcases hO b with z | ⟨ob, u3, z⟩
          · rw [q2] at z
            cases z
          · have z2 := un.frzs b ob _ z
            obtain ⟨e1, _⟩ := hok b _ z
            obtain ⟨e2, _⟩ := hok' b _ z2
            rw [e] at e1
            cases e1
            exact e2
      have KX' : K.In s'.heap := fun b o e => kept b o (KX b o e)
      obtain ⟨as, hrd⟩ := Dw.reads (R := R) (cl := cl) hok' KX' d0 v u q r'
      exact ⟨u, as, rfl, hrd, OldK.of_keep kept, os, bare⟩
/-! ### the row -/
theorem layable_weight {ds : List WData} (h : WData.layableAll ds = true) : ∀ d ∈ ds, d.weight ≤ 1048576 := fun d hd =>
  (PySem.W.layableW_iff.mp (List.all_eq_true.mp h d hd)).2.2
theorem encAll_len : ∀ (cs : List Codec) (a : Codec.denoteAll cs), (Codec.encAll cs a).length = cs.length
  | [], _ => rfl
  | c :: cs, a => by
    show (Codec.encAll cs a.2).length + 1 = cs.length + 1
    rw [encAll_len cs a.2]
/-- the goal that k_headS leaves (case hc), from the promise of the row's def: whatever the arguments that the codecs let and the row asks for, the def gives what stands for enc (f ..) -/
theorem walk_spec {r : OpenSpec} {k : Nat} {q : Program} {loose : List Str} {XP : (Str → Option Value) → Heap → Prop} {YP : World → Heap → Prop} {d : DefRec} {K : Params → PySem.W.Frag} {CX : World → CXT} {ps : List Str} {sp : World → Sp}
    (hwell : r.wellSaid = true) (hdf : d.params.defaults = []) (hlen : r.args.length = ps.length) (hr : Room k callerA)
    (hY : ∀ (w : World) (h : Heap), YP w h → (K w.params).In h)
    (F : ∀ (w : World) (mg : Str → Option Value) (fa : Addr) (h : Heap), YP w h → (K w.params).In h → h.Ns mainGlobals mg → mg d.name = some (.ref fa) →
      ∃ fd : FuncData, (∀ (s : Shared) (us : List Value), us.length = ps.length → BindsTo s fd ⟨us, []⟩ (ps.zip us)) ∧
        ∀ base : Heap, (K w.params).In base → base.Ns mainGlobals mg → FnOk r.prog w (K w.params) mg base (CX w) k fa fd ps (sp w))
    (hsp : ∀ (w : World) (H : Hp) (xs : List V) (a : Codec.denoteAll r.args), OnlyF H → Codec.withinAll r.args a = true → Codec.app r.args r.asked a = true → DwAll (K w.params) H xs (Codec.encAll r.args a) →
      sp w xs H (fun v H' => Dw (K w.params) H' v (r.ret.enc (Codec.app r.args r.f a))) fun _ _ _ => False)
    (hCX : ∀ (w : World) (H : Hp) (s : Shared) (e : Value) (s' : Shared), CX w [] H s (fun _ _ _ => False) e s' → False) :
    PySem.W.WalkOS q loose XP YP r d [] (fun f vs => PySem.call f vs) := by
  intro w s_0 s₁ mg mb G Y fa o pm cd doc dV kV ho hd hcd hD hmg hg args vals as hpre hlay hrd hwl hlo
  obtain ⟨a, e1, e2⟩ := PySem.W.os_pre_some hpre
  obtain ⟨e3, hwi⟩ := Codec.encAll_of_decAll r.args args a e1
  subst e3
  have KX := hY w _ Y
  obtain ⟨fd, hb, hF⟩ := F w mg fa _ Y KX G.T.g hmg
  refine PySem.W.enter_call (codeAny_mono (spec_call (R := []) (cl := classAt s_0.heap) (d0 := r.ret.enc (Codec.app r.args r.f a)) KX G.T.g G.T.b G.T.builtins G.T.nolimit hg hwl (pl_encAll _ _) (layable_weight hlay) hr hF hb (by rw [encAll_len]; exact hlen)
    (fun H xs hO hS => hsp w H xs a hO hwi e2 hS) fun H e s' => hCX w H s₁ e s') fun r' s' hq => ?_)
  obtain ⟨u, as', rfl, h1, h2, h3, h4⟩ := hq
  exact ⟨.inl ⟨u, _, as', rfl, fun _ => rfl, h1, (OpenSpec.post_iff hwell hwi _ _).mpr rfl, fun z => Bool.noConfusion (show false = true from z)⟩, h2, h3, h4⟩
/-- the same where the promise hangs on the written part alone -/
theorem walk_specK {r : OpenSpec} {k : Nat} {q : Program} {loose : List Str} {XP : (Str → Option Value) → Heap → Prop} {YP : World → Heap → Prop} {d : DefRec} {K : Params → PySem.W.Frag} {CX : CXT} {ps : List Str} {sp : PySem.W.Frag → Sp}
    (hwell : r.wellSaid = true) (hdf : d.params.defaults = []) (hlen : r.args.length = ps.length) (hr : Room k callerA)
    (hY : ∀ (w : World) (h : Heap), YP w h → (K w.params).In h)
    (F : ∀ (w : World) (mg : Str → Option Value) (fa : Addr) (h : Heap), YP w h → (K w.params).In h → h.Ns mainGlobals mg → mg d.name = some (.ref fa) →
      ∃ fd : FuncData, (∀ (s : Shared) (us : List Value), us.length = ps.length → BindsTo s fd ⟨us, []⟩ (ps.zip us)) ∧
        ∀ base : Heap, (K w.params).In base → base.Ns mainGlobals mg → FnOk r.prog w (K w.params) mg base CX k fa fd ps (sp (K w.params)))
    (hsp : ∀ (K : PySem.W.Frag) (H : Hp) (xs : List V) (a : Codec.denoteAll r.args), OnlyF H → Codec.withinAll r.args a = true → Codec.app r.args r.asked a = true → DwAll K H xs (Codec.encAll r.args a) →
      sp K xs H (fun v H' => Dw K H' v (r.ret.enc (Codec.app r.args r.f a))) fun _ _ _ => False)
    (hCX : ∀ (H : Hp) (s : Shared) (e : Value) (s' : Shared), CX [] H s (fun _ _ _ => False) e s' → False) :
    PySem.W.WalkOS q loose XP YP r d [] (fun f vs => PySem.call f vs) :=
  walk_spec (K := K) (CX := fun _ => CX) (sp := fun w => sp (K w.params)) hwell hdf hlen hr hY F (fun w H xs a h1 h2 h3 h4 => hsp (K w.params) H xs a h1 h2 h3 h4) fun _ H s e s' => hCX H s e s'
end L2
-- rests on (row put in by the clerk, for the bench that shows a file only what it spells): KE.SpHead KE.OsShapes
end
section
/-! The mathematics: runs that end, in no more steps than there are states and places; what a rule tells; what is asked. -/
namespace Mt

/-! ### a system that goes step by step: on, or to an end -/
section
variable {S E : Type} (st : S → S ⊕ E)
def goes : Nat → S → Option (E × Nat)
  | 0, _ => none
  | f + 1, s => match st s with
    | .inr e => some (e, 1)
    | .inl s' => (goes f s').map fun x => (x.1, x.2 + 1)
variable {st}
theorem goes_end {f : Nat} {s : S} {e : E} (h : st s = .inr e) : goes st (f + 1) s = some (e, 1) := by
  unfold goes
  rw [h]
theorem goes_on {f : Nat} {s s' : S} (h : st s = .inl s') : goes st (f + 1) s = (goes st f s').map fun x => (x.1, x.2 + 1) := by
  conv => lhs; unfold goes
  rw [h]
theorem goes_succ : ∀ {f : Nat} {s : S} {r : E × Nat}, goes st f s = some r → goes st (f + 1) s = some r
  | 0, _, _, h => by cases h
  | f + 1, s, r, h => by
    cases q : st s with
    | inr e => rw [goes_end q] at h ⊢; exact h
    | inl s' =>
      rw [goes_on q] at h ⊢
      obtain ⟨x, hx, rfl⟩ := Option.map_eq_some_iff.mp h
      rw [goes_succ hx]; rfl
theorem goes_mono {s : S} {r : E × Nat} {f : Nat} : ∀ {g : Nat}, f ≤ g → goes st f s = some r → goes st g s = some r
  | 0, hg, h => by
    have e : f = 0 := Nat.le_zero.mp hg
    subst e; exact h
  | g + 1, hg, h => by
    rcases Nat.lt_or_ge g f with hl | hl
    · have e : f = g + 1 := by omega
      subst e; exact h
    · exact goes_succ (goes_mono hl h)
theorem goes_one {s : S} {r r' : E × Nat} {f g : Nat} (h : goes st f s = some r) (h' : goes st g s = some r') : r = r' := by
  have a := goes_mono (Nat.le_max_left f g) h
  have b := goes_mono (Nat.le_max_right f g) h'
  exact Option.some.inj (a.symm.trans b)
/-- as many steps as told are enough -/
theorem goes_enough : ∀ {f : Nat} {s : S} {e : E} {c : Nat}, goes st f s = some (e, c) → goes st c s = some (e, c)
  | 0, _, _, _, h => by cases h
  | f + 1, s, e, c, h => by
    cases q : st s with
    | inr e' =>
      rw [goes_end q] at h
      cases h
      exact goes_end q
    | inl s' =>
      rw [goes_on q] at h
      obtain ⟨⟨e1, c1⟩, hx, hy⟩ := Option.map_eq_some_iff.mp h
      cases hy
      rw [goes_on q, goes_enough hx]
      rfl
/-- numbers below N, no two alike: at most N -/
theorem few_below : ∀ (N : Nat) (l : List Nat), l.Nodup → (∀ x ∈ l, x < N) → l.length ≤ N
  | 0, l, _, h => by
    cases l with
    | nil => exact Nat.le_refl _
    | cons a r => exact absurd (h a (List.mem_cons_self ..)) (Nat.not_lt_zero _)
  | N + 1, l, hn, h => by
    by_cases hm : N ∈ l
    · have i := few_below N (l.erase N) (hn.erase N) fun x hx => by
        have hx' := (List.Nodup.mem_erase_iff hn).mp hx
        have := h x hx'.2
        have := hx'.1
        omega
      rw [List.length_erase_of_mem hm] at i
      omega
    · have i := few_below N l hn fun x hx => by
        have h1 := h x hx
        have : x ≠ N := fun e => hm (e ▸ hx)
        omega
      omega
variable {P : S → Prop} {code : S → Nat} {N : Nat}
/-- the states on the way to the end, no two alike -/
theorem goes_trace (hP : ∀ s s', P s → st s = .inl s' → P s') (inj : ∀ s s', P s → P s' → code s = code s' → s = s') : ∀ {f : Nat} {s : S} {e : E} {c : Nat}, P s → goes st f s = some (e, c) →
    ∃ l : List S, l.length = c ∧ (∀ x ∈ l, P x ∧ ∃ g e' c', c' ≤ c ∧ goes st g x = some (e', c')) ∧ (l.map code).Nodup
  | 0, _, _, _, _, h => by cases h
  | f + 1, s, e, c, p, h => by
    have h0 := h
    cases q : st s with
    | inr e' =>
      rw [goes_end q] at h
      cases h
      exact ⟨[s], rfl, fun x hx => by
        have e1 : x = s := List.mem_singleton.mp hx
        subst e1
        exact ⟨p, _, _, _, Nat.le_refl _, h0⟩, by simp⟩
    | inl s' =>
      rw [goes_on q] at h
      obtain ⟨⟨e1, c1⟩, hx, hy⟩ := Option.map_eq_some_iff.mp h
      cases hy
      obtain ⟨l, h1, h2, h3⟩ := goes_trace hP inj (hP s s' p q) hx
      refine ⟨s :: l, by rw [List.length_cons, h1], fun x m => ?_, ?_⟩
      · rcases List.mem_cons.mp m with rfl | m
        · exact ⟨p, _, _, _, Nat.le_refl _, h0⟩
        · obtain ⟨px, g, e', c', hc, hg⟩ := h2 x m
          exact ⟨px, g, e', c', Nat.le_succ_of_le hc, hg⟩
      · rw [List.map_cons]
        refine List.nodup_cons.mpr ⟨fun m => ?_, h3⟩
        obtain ⟨x, mx, ex⟩ := List.mem_map.mp m
        obtain ⟨px, g, e', c', hc, hg⟩ := h2 x mx
        have es : x = s := inj x s px p ex
        subst es
        have z := goes_one hg h0
        have z2 : c' = c1 + 1 := congrArg Prod.snd z
        omega
theorem goes_short (hP : ∀ s s', P s → st s = .inl s' → P s') (inj : ∀ s s', P s → P s' → code s = code s' → s = s') (lt : ∀ s, P s → code s < N) {f : Nat} {s : S} {e : E} {c : Nat} (p : P s) (h : goes st f s = some (e, c)) : c ≤ N := by
  obtain ⟨l, h1, h2, h3⟩ := goes_trace hP inj p h
  have z := few_below N (l.map code) h3 fun x hx => by
    obtain ⟨y, my, rfl⟩ := List.mem_map.mp hx
    exact lt y (h2 y my).1
  rw [List.length_map, h1] at z
  exact z
/-- more steps than there are states change nothing -/
theorem goes_all (hP : ∀ s s', P s → st s = .inl s' → P s') (inj : ∀ s s', P s → P s' → code s = code s' → s = s') (lt : ∀ s, P s → code s < N) {s : S} (p : P s) {f : Nat} (hf : N ≤ f) : goes st f s = goes st N s := by
  cases h : goes st f s with
  | none =>
    cases h' : goes st N s with
    | none => rfl
    | some r => rw [goes_mono hf h'] at h; cases h
  | some r =>
    obtain ⟨e, c⟩ := r
    have z := goes_short hP inj lt p h
    exact (goes_mono z (goes_enough h)).symm
end

/-! ### a machine's run -/
open Rd11
def stp (m : Machine) (w : Word) : Nat × Nat → (Nat × Nat) ⊕ End := fun x => match m.rule x.1 (sign m w x.2) with
  | none => .inr .stops
  | some (r, true) => if x.2 = w.length + 1 then .inr (.leaves r) else .inl (r, x.2 + 1)
  | some (r, false) => .inl (r, x.2 - 1)
theorem runs_goes (m : Machine) (w : Word) : ∀ (f q i : Nat), runs m w f q i = goes (stp m w) f (q, i)
  | 0, _, _ => rfl
  | f + 1, q, i => by
    unfold runs
    cases h : m.rule q (sign m w i) with
    | none =>
      have e : stp m w (q, i) = .inr .stops := by unfold stp; dsimp only; rw [h]
      rw [goes_end e]
    | some x =>
      obtain ⟨r, b⟩ := x
      cases b with
      | true =>
        by_cases hi : i = w.length + 1
        · have e : stp m w (q, i) = .inr (.leaves r) := by unfold stp; dsimp only; rw [h]; dsimp only; rw [if_pos hi]
          rw [goes_end e]; dsimp only; rw [if_pos hi]
        · have e : stp m w (q, i) = .inl (r, i + 1) := by unfold stp; dsimp only; rw [h]; dsimp only; rw [if_neg hi]
          rw [goes_on e]; dsimp only; rw [if_neg hi, runs_goes m w f]
      | false =>
        have e : stp m w (q, i) = .inl (r, i - 1) := by unfold stp; dsimp only; rw [h]
        rw [goes_on e]; dsimp only; rw [runs_goes m w f]
def Plc (m : Machine) (w : Word) (x : Nat × Nat) : Prop := x.1 < m.n ∧ x.2 < w.length + 2
theorem rule_lt {m : Machine} {q s r : Nat} {b : Bool} (h : m.rule q s = some (r, b)) : r < m.n := by
  unfold Machine.rule at h
  by_cases hl : m.entry q s < 2 * m.n
  · rw [if_pos hl] at h
    cases h
    omega
  · rw [if_neg hl] at h; cases h
theorem plc_step {m : Machine} {w : Word} : ∀ s s', Plc m w s → stp m w s = .inl s' → Plc m w s' := by
  rintro ⟨q, i⟩ s' ⟨hq, hi⟩ h
  unfold stp at h
  dsimp only at h hq hi
  cases e : m.rule q (sign m w i) with
  | none => rw [e] at h; cases h
  | some x =>
    obtain ⟨r, b⟩ := x
    rw [e] at h
    have hr := rule_lt e
    cases b with
    | true =>
      dsimp only at h
      by_cases hw : i = w.length + 1
      · rw [if_pos hw] at h; cases h
      · rw [if_neg hw] at h; cases h
        exact ⟨hr, by dsimp only; omega⟩
    | false =>
      dsimp only at h
      cases h
      exact ⟨hr, by dsimp only; omega⟩
def codeOf (w : Word) (x : Nat × Nat) : Nat := x.1 * (w.length + 2) + x.2
theorem code_inj {a b a' b' L : Nat} (hb : b < L) (hb' : b' < L) (h : a * L + b = a' * L + b') : a = a' ∧ b = b' := by
  have h1 : (a * L + b) / L = a := by
    rw [Nat.add_comm, Nat.add_mul_div_right _ _ (by omega), Nat.div_eq_of_lt hb]; omega
  have h2 : (a' * L + b') / L = a' := by
    rw [Nat.add_comm, Nat.add_mul_div_right _ _ (by omega), Nat.div_eq_of_lt hb']; omega
  have e : a = a' := by rw [← h1, ← h2, h]
  subst e
  exact ⟨rfl, by omega⟩
theorem code_lt {a b n L : Nat} (ha : a < n) (hb : b < L) : a * L + b < n * L := by
  have h : (a + 1) * L ≤ n * L := Nat.mul_le_mul_right _ ha
  rw [Nat.succ_mul] at h
  omega
theorem plc_inj {m : Machine} {w : Word} : ∀ s s', Plc m w s → Plc m w s' → codeOf w s = codeOf w s' → s = s' := by
  rintro ⟨q, i⟩ ⟨q', i'⟩ ⟨_, hi⟩ ⟨_, hi'⟩ h
  obtain ⟨e1, e2⟩ := code_inj hi hi' h
  subst e1 e2
  rfl
theorem plc_lt {m : Machine} {w : Word} : ∀ s, Plc m w s → codeOf w s < m.n * (w.length + 2) := by
  rintro ⟨q, i⟩ ⟨hq, hi⟩
  exact code_lt hq hi
theorem run_goes {m : Machine} {w : Word} (hn : 0 < m.n) : Rd11.run m w = goes (stp m w) (m.n * (w.length + 2)) (0, 0) := by
  unfold Rd11.run
  rw [runs_goes]
  exact goes_all plc_step plc_inj plc_lt ⟨hn, by dsimp only; omega⟩ (Nat.le_succ _)

/-! ### what holds ahead of the turn i: in state q at place p -/
structure Go (m : Machine) (w : Word) (i q p : Nat) : Prop where
  hq : q < m.n
  hp : p < w.length + 2
  eq : Rd11.run m w = (goes (stp m w) (m.n * (w.length + 2) - i) (q, p)).map fun x => (x.1, x.2 + i)
variable {m : Machine} {w : Word} {i q p : Nat}
theorem Go.start (hn : 0 < m.n) : Go m w 0 0 0 := by
  refine ⟨hn, by omega, ?_⟩
  rw [run_goes hn, Nat.sub_zero]
  cases goes (stp m w) (m.n * (w.length + 2)) (0, 0) with
  | none => rfl
  | some r => rfl
theorem Go.fin (g : Go m w (m.n * (w.length + 2)) q p) : Rd11.run m w = none := by
  rw [g.eq, Nat.sub_self]; rfl
theorem Go.ends (g : Go m w i q p) (hi : i < m.n * (w.length + 2)) {e : End} (h : stp m w (q, p) = .inr e) : Rd11.run m w = some (e, i + 1) := by
  obtain ⟨d, hd⟩ : ∃ d, m.n * (w.length + 2) - i = d + 1 := ⟨m.n * (w.length + 2) - i - 1, by omega⟩
  rw [g.eq, hd, goes_end h]
  show some (e, 1 + i) = some (e, i + 1)
  rw [Nat.add_comm]
theorem Go.on (g : Go m w i q p) (hi : i < m.n * (w.length + 2)) {q' p' : Nat} (h : stp m w (q, p) = .inl (q', p')) : Go m w (i + 1) q' p' := by
  obtain ⟨hq', hp'⟩ := plc_step (m := m) (w := w) _ _ ⟨g.hq, g.hp⟩ h
  refine ⟨hq', hp', ?_⟩
  obtain ⟨d, hd⟩ : ∃ d, m.n * (w.length + 2) - i = d + 1 := ⟨m.n * (w.length + 2) - i - 1, by omega⟩
  have hd' : m.n * (w.length + 2) - (i + 1) = d := by omega
  rw [g.eq, hd, hd', goes_on h]
  cases goes (stp m w) d (q', p') with
  | none => rfl
  | some r =>
    show some (r.1, r.2 + 1 + i) = some (r.1, r.2 + (i + 1))
    rw [Nat.add_assoc, Nat.add_comm 1 i]
end Mt

/-! ### the program's numbers -/
namespace Mt
open Rd11 Rd11Neutral
def ruleFit (n k s r : Nat) : Bool := if r = 255 then true else if 2 * n ≤ r then false else (!decide (s = k)) || decide (r % 2 = 1)
def fitList (n k : Nat) (rs : List Nat) : List Bool := rs.mapIdx fun i r => ruleFit n k (i % (k + 2)) r
def rulesFit (n k : Nat) (rs : List Nat) : Bool := (fitList n k rs).all id
theorem ruleFit_iff {n k s r : Nat} : ruleFit n k s r = true ↔ r = 255 ∨ (r < 2 * n ∧ (s = k → r % 2 = 1)) := by
  unfold ruleFit
  by_cases h : r = 255
  · simp [h]
  · rw [if_neg h]
    by_cases h2 : 2 * n ≤ r
    · rw [if_pos h2]
      constructor
      · intro z; cases z
      · rintro (z | ⟨z, _⟩)
        · exact absurd z h
        · omega
    · rw [if_neg h2]
      by_cases h3 : s = k
      · simp [h, h3]; omega
      · simp [h, h3]; omega
theorem fit_get {n k : Nat} {rs : List Nat} (i : Nat) : (fitList n k rs)[i]? = (rs[i]?).map fun r => ruleFit n k (i % (k + 2)) r := by
  unfold fitList
  rw [List.getElem?_mapIdx]
theorem rulesFit_iff {n k : Nat} {rs : List Nat} : rulesFit n k rs = true ↔ ∀ i r, rs[i]? = some r → ruleFit n k (i % (k + 2)) r = true := by
  unfold rulesFit
  rw [List.all_eq_true]
  constructor
  · intro h i r hr
    have e : (fitList n k rs)[i]? = some (ruleFit n k (i % (k + 2)) r) := by rw [fit_get, hr]; rfl
    exact h _ (List.mem_of_getElem? e)
  · intro h b hb
    obtain ⟨i, hi⟩ := List.getElem?_of_mem hb
    rw [fit_get] at hi
    obtain ⟨r, hr, rfl⟩ := Option.map_eq_some_iff.mp hi
    exact h i r hr
theorem rulesFit_eq {n k : Nat} {rs : List Nat} (hl : rs.length = n * (k + 2)) : rulesFit n k rs = rulesOk (n : Int) (k : Int) rs := by
  rw [Bool.eq_iff_iff, rulesFit_iff]
  unfold rulesOk
  rw [Int.toNat_natCast, Int.toNat_natCast, Bool.and_eq_true, Bool.and_eq_true, List.all_eq_true, List.all_eq_true, decide_eq_true_eq]
  constructor
  · intro h
    refine ⟨⟨hl, fun v hv => ?_⟩, fun q hq => ?_⟩
    · obtain ⟨i, hi⟩ := List.getElem?_of_mem hv
      rcases ruleFit_iff.mp (h i v hi) with e | ⟨e, _⟩
      · simp [e, NONE]
      · simp [e]
    · have hq' : q < n := List.mem_range.mp hq
      have hi : q * (k + 2) + k < rs.length := by rw [hl]; exact code_lt hq' (by omega)
      have z := ruleFit_iff.mp (h (q * (k + 2) + k) _ (List.getElem?_eq_getElem hi))
      have em : (q * (k + 2) + k) % (k + 2) = k := by
        rw [Nat.add_comm, Nat.add_mul_mod_self_right, Nat.mod_eq_of_lt (by omega)]
      rw [em] at z
      rw [List.getD_eq_getElem?_getD, List.getElem?_eq_getElem hi]
      show (rs[q * (k + 2) + k] % 2 == 1) = true
      rw [beq_iff_eq]
      rcases z with e | ⟨_, e⟩
      · omega
      · exact e rfl
  · rintro ⟨⟨_, h1⟩, h2⟩ i r hr
    rw [ruleFit_iff]
    have hm := h1 r (List.mem_of_getElem? hr)
    rw [Bool.or_eq_true, beq_iff_eq, decide_eq_true_eq] at hm
    rcases hm with e | e
    · exact .inl e
    · refine .inr ⟨e, fun hk => ?_⟩
      have hi : i < rs.length := (List.getElem?_eq_some_iff.mp hr).1
      have hq : i / (k + 2) < n := by
        rw [hl] at hi
        exact (Nat.div_lt_iff_lt_mul (by omega)).mpr hi
      have z := h2 (i / (k + 2)) (List.mem_range.mpr hq)
      have ei : i / (k + 2) * (k + 2) + k = i := by
        have := Nat.div_add_mod i (k + 2)
        rw [Nat.mul_comm] at this
        omega
      rw [ei, List.getD_eq_getElem?_getD, hr, beq_iff_eq] at z
      exact z
/-! ### a turn -/
theorem sign_at {n k g : Nat} {rs ws : List Nat} {p : Nat} (hw : letters k ws = true) (hp : p < ws.length + 2) :
    sign ⟨n, k, rs, g⟩ ws p < k + 2 ∧ (k :: (ws ++ [k + 1]))[p]? = some (sign ⟨n, k, rs, g⟩ ws p) := by
  unfold sign
  by_cases h0 : p = 0
  · subst h0
    rw [if_pos rfl]
    exact ⟨by show k < k + 2; omega, rfl⟩
  · rw [if_neg h0]
    obtain ⟨j, rfl⟩ : ∃ j, p = j + 1 := ⟨p - 1, by omega⟩
    by_cases h1 : j + 1 = ws.length + 1
    · rw [if_pos h1]
      have e : j = ws.length := by omega
      subst e
      refine ⟨by show k + 1 < k + 2; omega, ?_⟩
      show (ws ++ [k + 1])[ws.length]? = some (k + 1)
      simp
    · rw [if_neg h1]
      have hj : j < ws.length := by omega
      have e : ws.getD (j + 1 - 1) 0 = ws[j] := by
        show ws.getD j 0 = ws[j]
        rw [List.getD_eq_getElem?_getD, List.getElem?_eq_getElem hj]
        rfl
      rw [e]
      refine ⟨?_, ?_⟩
      · have z := List.all_eq_true.mp hw ws[j] (List.getElem_mem hj)
        rw [decide_eq_true_eq] at z
        omega
      · show (ws ++ [k + 1])[j]? = some ws[j]
        rw [List.getElem?_append_left hj, List.getElem?_eq_getElem hj]
theorem turn {n k g : Nat} {rs ws : List Nat} {i q p : Nat} (hn : n ≤ 5) (hl : rs.length = n * (k + 2)) (hf : rulesFit n k rs = true) (hw : letters k ws = true) (G : Go ⟨n, k, rs, g⟩ ws i q p) (hi : i < n * (ws.length + 2)) :
    ∃ s r : Nat, (k :: (ws ++ [k + 1]))[p]? = some s ∧ rs[q * (k + 2) + s]? = some r ∧
      (r = 255 → Rd11.run ⟨n, k, rs, g⟩ ws = some (.stops, i + 1)) ∧
      (r ≠ 255 → r % 2 = 1 → p + 1 = ws.length + 2 → Rd11.run ⟨n, k, rs, g⟩ ws = some (.leaves (r / 2), i + 1)) ∧
      (r ≠ 255 → r % 2 = 1 → p + 1 ≠ ws.length + 2 → Go ⟨n, k, rs, g⟩ ws (i + 1) (r / 2) (p + 1)) ∧
      (r ≠ 255 → r % 2 ≠ 1 → ∃ p', p = p' + 1 ∧ Go ⟨n, k, rs, g⟩ ws (i + 1) (r / 2) p') := by
  obtain ⟨hs, hrow⟩ := sign_at (n := n) (g := g) (rs := rs) hw G.hp
  have hq : q < n := G.hq
  have hidx : q * (k + 2) + sign ⟨n, k, rs, g⟩ ws p < rs.length := by rw [hl]; exact code_lt hq hs
  have hr := List.getElem?_eq_getElem hidx
  generalize hrr : rs[q * (k + 2) + sign ⟨n, k, rs, g⟩ ws p] = r at hr
  have hent : Machine.entry ⟨n, k, rs, g⟩ q (sign ⟨n, k, rs, g⟩ ws p) = r := by
    show rs.getD (q * (k + 2) + sign ⟨n, k, rs, g⟩ ws p) (2 * n) = r
    rw [List.getD_eq_getElem?_getD, hr]
    rfl
  have hfit := ruleFit_iff.mp (rulesFit_iff.mp hf _ _ hr)
  have em : (q * (k + 2) + sign ⟨n, k, rs, g⟩ ws p) % (k + 2) = sign ⟨n, k, rs, g⟩ ws p := by
    rw [Nat.add_comm, Nat.add_mul_mod_self_right, Nat.mod_eq_of_lt hs]
  rw [em] at hfit
  have hstop : r = 255 → stp ⟨n, k, rs, g⟩ ws (q, p) = .inr .stops := fun e => by
    have z : Machine.rule ⟨n, k, rs, g⟩ q (sign ⟨n, k, rs, g⟩ ws p) = none := by
      unfold Machine.rule
      rw [hent, if_neg (by show ¬ r < 2 * n; omega)]
    unfold stp
    dsimp only
    rw [z]
  have hrule : ∀ b : Bool, r ≠ 255 → (r % 2 == 1) = b → Machine.rule ⟨n, k, rs, g⟩ q (sign ⟨n, k, rs, g⟩ ws p) = some (r / 2, b) := fun b hne hb => by
    have hlt : r < 2 * n := by
      rcases hfit with e | ⟨e, _⟩
      · exact absurd e hne
      · exact e
    unfold Machine.rule
    rw [hent, if_pos hlt, hb]
  refine ⟨_, r, hrow, hr, fun e => G.ends hi (hstop e), fun hne ho hp => ?_, fun hne ho hp => ?_, fun hne ho => ?_⟩
  · have z := hrule true hne (by rw [beq_iff_eq]; exact ho)
    refine G.ends hi ?_
    unfold stp
    dsimp only
    rw [z]
    dsimp only
    rw [if_pos (by omega)]
  · have z := hrule true hne (by rw [beq_iff_eq]; exact ho)
    refine G.on hi ?_
    unfold stp
    dsimp only
    rw [z]
    dsimp only
    rw [if_neg (by omega)]
  · have z := hrule false hne (by rw [beq_eq_false_iff_ne]; exact ho)
    have hp0 : p ≠ 0 := fun e => by
      subst e
      rcases hfit with e | ⟨_, e⟩
      · exact hne e
      · exact ho (e rfl)
    refine ⟨p - 1, by omega, G.on hi ?_⟩
    unfold stp
    dsimp only
    rw [z]
/-! ### what is asked -/
theorem natural_iff {z : Int} {b : Nat} : natural z b = true ↔ 0 ≤ z ∧ z < 2 ^ b := by
  unfold natural
  rw [Bool.and_eq_true, decide_eq_true_eq, decide_eq_true_eq]
theorem between_iff {z a b : Int} : between z a b = true ↔ a ≤ z ∧ z ≤ b := by
  unfold between
  rw [Bool.and_eq_true, decide_eq_true_eq, decide_eq_true_eq]
theorem int32_small {z a b : Int} (h0 : 0 ≤ z) (h1 : z < 2 ^ 32) (ha : 0 ≤ a) (h : between (int32 z) a b = true) : int32 z = z ∧ a ≤ z ∧ z ≤ b := by
  obtain ⟨h2, h3⟩ := between_iff.mp h
  unfold int32 at h2 h3 ⊢
  by_cases hz : z < 2 ^ 31
  · rw [if_pos hz] at h2 h3 ⊢
    exact ⟨rfl, h2, h3⟩
  · rw [if_neg hz] at h2
    omega
def casts (l : List Nat) : List Int := l.map fun (x : Nat) => (x : Int)
theorem nats_casts : ∀ l : List Nat, nats (casts l) = l
  | [] => rfl
  | a :: r => by
    show (a : Int).toNat :: nats (casts r) = a :: r
    rw [nats_casts r, Int.toNat_natCast]
theorem casts_nats : ∀ {l : List Int}, (∀ x ∈ l, 0 ≤ x) → casts (nats l) = l
  | [], _ => rfl
  | a :: r, h => by
    show ((a.toNat : Nat) : Int) :: casts (nats r) = a :: r
    rw [casts_nats fun x hx => h x (List.mem_cons_of_mem _ hx), Int.toNat_of_nonneg (h a (List.mem_cons_self ..))]
theorem row_iff {l : List Int} {n : Int} (h : row l n = true) : ∃ ns : List Nat, l = casts ns ∧ (ns.length : Int) = n ∧ ∀ x ∈ ns, x < 256 := by
  unfold row at h
  rw [Bool.and_eq_true, List.all_eq_true, decide_eq_true_eq] at h
  have e := casts_nats fun x hx => (natural_iff.mp (h.1 x hx)).1
  refine ⟨nats l, e.symm, ?_, fun x hx => ?_⟩
  · unfold nats
    rw [List.length_map]
    exact h.2
  · unfold nats at hx
    obtain ⟨y, hy, rfl⟩ := List.mem_map.mp hx
    have z := natural_iff.mp (h.1 y hy)
    omega
/-- a machine's numbers as they are asked: rules that are numbers; in their ranges: as many as told -/
theorem rules_ask {n k : Int} {rs : List Int} (h : Rd11Neutral.rules n k rs = true) : ∃ ns : List Nat, rs = casts ns ∧ (∀ x ∈ ns, x < 256) ∧ ns.length ≤ 30 ∧ 0 ≤ n ∧ n < 2 ^ 32 ∧ 0 ≤ k ∧ k < 2 ^ 32 ∧
    (sizeOk (int32 n) (int32 k) = true → int32 n = n ∧ int32 k = k ∧ ∃ N K : Nat, n = (N : Int) ∧ k = (K : Int) ∧ 1 ≤ N ∧ N ≤ 5 ∧ 1 ≤ K ∧ K ≤ 4 ∧ ns.length = N * (K + 2)) := by
  unfold Rd11Neutral.rules at h
  rw [Bool.and_eq_true, Bool.and_eq_true, natural_iff, natural_iff] at h
  obtain ⟨⟨n0, n1⟩, ⟨k0, k1⟩, hr⟩ := h
  obtain ⟨ns, e, hlen, hb⟩ := row_iff hr
  by_cases hs : sizeOk (int32 n) (int32 k) = true
  · rw [if_pos hs] at hlen
    have hs2 := hs
    unfold sizeOk at hs2
    rw [Bool.and_eq_true] at hs2
    obtain ⟨en, n2, n3⟩ := int32_small n0 n1 (by decide) hs2.1
    obtain ⟨ek, k2, k3⟩ := int32_small k0 k1 (by decide) hs2.2
    obtain ⟨N, rfl⟩ := Int.eq_ofNat_of_zero_le n0
    obtain ⟨K, rfl⟩ := Int.eq_ofNat_of_zero_le k0
    have hl : ns.length = N * (K + 2) := by
      have z : ((N * (K + 2) : Nat) : Int) = (N : Int) * ((K : Int) + 2) := by rw [Int.natCast_mul]; rfl
      omega
    have hl2 : N * (K + 2) ≤ 5 * 6 := Nat.mul_le_mul (by omega) (by omega)
    exact ⟨ns, e, hb, by omega, n0, n1, k0, k1, fun _ => ⟨en, ek, N, K, rfl, rfl, by omega, by omega, by omega, by omega, hl⟩⟩
  · rw [if_neg hs] at hlen
    exact ⟨ns, e, hb, by omega, n0, n1, k0, k1, fun z => absurd z hs⟩
end Mt

/-! ### the answers -/
namespace Mt
open Rd11 Rd11Neutral
theorem asked_one {c : Rd11Neutral.Call} (h : Rd11Neutral.asked [c] = true) : asked1 c = true := by
  unfold Rd11Neutral.asked at h
  rw [Bool.and_eq_true] at h
  have z := h.1
  rw [List.all_cons, Bool.and_eq_true] at z
  exact z.1
def outOf (a : Ans) : List Int := a.v :: a.l.map fun (x : Nat) => (x : Int)
/-- what the bits of good say -/
theorem bit_of {g q : Nat} : ((g : Int) / 2 ^ q) % 2 = if g.testBit q = true then 1 else 0 := by
  have e : ((g : Int) / 2 ^ q) % 2 = ((g / 2 ^ q % 2 : Nat) : Int) := by
    rw [Int.natCast_emod, Int.natCast_ediv, Int.natCast_pow]
    rfl
  rw [e, Nat.testBit_eq_decide_div_mod_eq]
  by_cases h : g / 2 ^ q % 2 = 1
  · rw [h, if_pos (by rw [decide_eq_true_eq])]; rfl
  · have h0 : g / 2 ^ q % 2 = 0 := by omega
    rw [h0, if_neg (by rw [decide_eq_true_eq]; omega)]; rfl
theorem good_iff {g n : Nat} : (g : Int) / 2 ^ n = 0 ↔ g < 2 ^ n := by
  have e : ((g : Int) / 2 ^ n) = ((g / 2 ^ n : Nat) : Int) := by
    rw [Int.natCast_ediv, Int.natCast_pow]
    rfl
  have hp : 0 < 2 ^ n := Nat.two_pow_pos n
  rw [e]
  constructor
  · intro h
    have h0 : g / 2 ^ n = 0 := by omega
    rcases Nat.div_eq_zero_iff.mp h0 with z | z
    · omega
    · exact z
  · intro h
    rw [Nat.div_eq_of_lt h]; rfl
end Mt

/-! ### tables: a word's table tells the table of the word with one more letter -/
namespace Mt
open Rd11
section
variable {S E : Type}
/-- it comes to an end e in c steps -/
inductive Ends (st : S → S ⊕ E) : S → E → Nat → Prop
  | here {s : S} {e : E} : st s = .inr e → Ends st s e 1
  | on {s s' : S} {e : E} {c : Nat} : st s = .inl s' → Ends st s' e c → Ends st s e (c + 1)
variable {st : S → S ⊕ E}
theorem Ends.goes {s : S} {e : E} {c : Nat} (h : Ends st s e c) : goes st c s = some (e, c) := by
  induction h with
  | here h => exact goes_end h
  | on h _ ih => rw [goes_on h, ih]; rfl
theorem ends_of : ∀ {f : Nat} {s : S} {e : E} {c : Nat}, Mt.goes st f s = some (e, c) → Ends st s e c
  | 0, _, _, _, h => by cases h
  | f + 1, s, e, c, h => by
    cases q : st s with
    | inr e' =>
      rw [goes_end q] at h
      cases h
      exact .here q
    | inl s' =>
      rw [goes_on q] at h
      obtain ⟨⟨e1, c1⟩, hx, hy⟩ := Option.map_eq_some_iff.mp h
      cases hy
      exact .on q (ends_of hx)
theorem Ends.same {s : S} {e e' : E} {c c' : Nat} (h : Ends st s e c) (h' : Ends st s e' c') : e = e' ∧ c = c' := by
  have z := goes_one h.goes h'.goes
  exact ⟨congrArg Prod.fst z, congrArg Prod.snd z⟩
theorem Ends.inl {s s' : S} {e : E} {c : Nat} (h : Ends st s e c) (q : st s = .inl s') : ∃ c', c = c' + 1 ∧ Ends st s' e c' := by
  cases h with
  | here h => rw [q] at h; cases h
  | on h t =>
    rw [q] at h
    cases h
    exact ⟨_, rfl, t⟩
theorem Ends.inr {s : S} {e e' : E} {c : Nat} (h : Ends st s e c) (q : st s = .inr e') : e = e' := by
  cases h with
  | here h => rw [q] at h; cases h; rfl
  | on h t => rw [q] at h; cases h
theorem Ends.pos {s : S} {e : E} {c : Nat} (h : Ends st s e c) : 0 < c := by cases h <;> omega
end
/-- the left end and a word, nothing behind -/
def sgn (m : Machine) (u : Word) (i : Nat) : Nat := if i = 0 then m.left else u.getD (i - 1) 0
def stT (m : Machine) (u : Word) : Nat × Nat → (Nat × Nat) ⊕ Nat := fun x => match m.rule x.1 (sgn m u x.2) with
  | none => .inr 500
  | some (r, true) => if x.2 = u.length then .inr r else .inl (r, x.2 + 1)
  | some (r, false) => .inl (r, x.2 - 1)
def endOf (x : Option (Nat × Nat)) : Nat := match x with
  | none => 501
  | some y => y.1
section
variable {m : Machine} {u : Word} {q i r : Nat}
theorem stT_stop (h : m.rule q (sgn m u i) = none) : stT m u (q, i) = .inr 500 := by unfold stT; dsimp only; rw [h]
theorem stT_out (h : m.rule q (sgn m u i) = some (r, true)) (hi : i = u.length) : stT m u (q, i) = .inr r := by unfold stT; dsimp only; rw [h]; dsimp only; rw [if_pos hi]
theorem stT_right (h : m.rule q (sgn m u i) = some (r, true)) (hi : ¬ i = u.length) : stT m u (q, i) = .inl (r, i + 1) := by unfold stT; dsimp only; rw [h]; dsimp only; rw [if_neg hi]
theorem stT_left (h : m.rule q (sgn m u i) = some (r, false)) : stT m u (q, i) = .inl (r, i - 1) := by unfold stT; dsimp only; rw [h]
theorem crossed_goes (m : Machine) (u : Word) : ∀ (f q i : Nat), crossed m u f q i = endOf (goes (stT m u) f (q, i))
  | 0, _, _ => rfl
  | f + 1, q, i => by
    unfold crossed
    show (match m.rule q (sgn m u i) with | none => 500 | some (r, true) => if i = u.length then r else crossed m u f r (i + 1) | some (r, false) => crossed m u f r (i - 1)) = _
    cases h : m.rule q (sgn m u i) with
    | none => rw [goes_end (stT_stop h)]; rfl
    | some x =>
      obtain ⟨r, b⟩ := x
      have more : ∀ y : Option (Nat × Nat), endOf (y.map fun x => (x.1, x.2 + 1)) = endOf y := fun y => by cases y <;> rfl
      cases b with
      | true =>
        by_cases hi : i = u.length
        · rw [goes_end (stT_out h hi)]; dsimp only; rw [if_pos hi]; rfl
        · rw [goes_on (stT_right h hi), more]; dsimp only; rw [if_neg hi, crossed_goes m u f]
      | false => rw [goes_on (stT_left h), more]; dsimp only; rw [crossed_goes m u f]
def InT (m : Machine) (u : Word) (x : Nat × Nat) : Prop := x.1 < m.n ∧ x.2 < u.length + 1
theorem inT_step : ∀ s s', InT m u s → stT m u s = .inl s' → InT m u s' := by
  rintro ⟨q, i⟩ s' ⟨hq, hi⟩ h
  dsimp only at hq hi
  cases e : m.rule q (sgn m u i) with
  | none => rw [stT_stop e] at h; cases h
  | some x =>
    obtain ⟨r, b⟩ := x
    have hr := rule_lt e
    cases b with
    | true =>
      by_cases hw : i = u.length
      · rw [stT_out e hw] at h; cases h
      · rw [stT_right e hw] at h; cases h
        exact ⟨hr, by dsimp only; omega⟩
    | false =>
      rw [stT_left e] at h; cases h
      exact ⟨hr, by dsimp only; omega⟩
def codeT (u : Word) (x : Nat × Nat) : Nat := x.1 * (u.length + 1) + x.2
theorem inT_inj : ∀ s s', InT m u s → InT m u s' → codeT u s = codeT u s' → s = s' := by
  rintro ⟨q, i⟩ ⟨q', i'⟩ ⟨_, hi⟩ ⟨_, hi'⟩ h
  obtain ⟨e1, e2⟩ := code_inj hi hi' h
  subst e1 e2
  rfl
theorem inT_lt : ∀ s, InT m u s → codeT u s < m.n * (u.length + 1) := by
  rintro ⟨q, i⟩ ⟨hq, hi⟩
  exact code_lt hq hi
/-- how it ends from a state at a place: 500 it stops, 501 never, else the state in which it goes out -/
def cr (m : Machine) (u : Word) (q i : Nat) : Nat := crossed m u (m.n * (u.length + 1) + 1) q i
theorem cr_goes {f : Nat} (p : InT m u (q, i)) (hf : m.n * (u.length + 1) ≤ f) : endOf (goes (stT m u) f (q, i)) = cr m u q i := by
  unfold cr
  rw [crossed_goes, goes_all inT_step inT_inj inT_lt p hf, goes_all inT_step inT_inj inT_lt p (Nat.le_succ _)]
theorem cr_of {e c : Nat} (p : InT m u (q, i)) (h : Ends (stT m u) (q, i) e c) : cr m u q i = e := by
  rw [← cr_goes (f := c + m.n * (u.length + 1)) p (by omega), goes_mono (Nat.le_add_right _ _) h.goes]
  rfl
theorem cr_not (p : InT m u (q, i)) (h : ∀ e c, ¬ Ends (stT m u) (q, i) e c) : cr m u q i = 501 := by
  rw [← cr_goes p (Nat.le_refl _)]
  cases z : goes (stT m u) (m.n * (u.length + 1)) (q, i) with
  | none => rfl
  | some x => exact absurd (ends_of (e := x.1) (c := x.2) z) (h _ _)
/-- an end's number: 500, or a state -/
theorem ends_small {e c : Nat} {s : Nat × Nat} (h : Ends (stT m u) s e c) : e = 500 ∨ e < m.n := by
  induction h with
  | @here s e h =>
    obtain ⟨q, i⟩ := s
    cases z : m.rule q (sgn m u i) with
    | none => rw [stT_stop z] at h; cases h; exact .inl rfl
    | some x =>
      obtain ⟨r, b⟩ := x
      cases b with
      | true =>
        by_cases hw : i = u.length
        · rw [stT_out z hw] at h; cases h; exact .inr (rule_lt z)
        · rw [stT_right z hw] at h; cases h
      | false => rw [stT_left z] at h; cases h
  | on _ _ ih => exact ih
theorem cr_ends (_ : m.n ≤ 500) (p : InT m u (q, i)) (h : cr m u q i ≠ 501) : ∃ c, Ends (stT m u) (q, i) (cr m u q i) c := by
  have z := cr_goes p (Nat.le_refl (m.n * (u.length + 1)))
  cases g : goes (stT m u) (m.n * (u.length + 1)) (q, i) with
  | none => rw [g] at z; exact absurd z.symm h
  | some x =>
    rw [g] at z
    have z2 : x.1 = cr m u q i := z
    rw [← z2]
    exact ⟨x.2, ends_of g⟩
theorem cr_none (hn : m.n ≤ 500) (p : InT m u (q, i)) (h : cr m u q i = 501) : ∀ e c, ¬ Ends (stT m u) (q, i) e c := fun e c z => by
  have z2 := cr_of p z
  rcases ends_small z with e1 | e1 <;> omega
theorem cr_range (hn : m.n ≤ 500) (p : InT m u (q, i)) : cr m u q i < m.n ∨ cr m u q i = 500 ∨ cr m u q i = 501 := by
  by_cases h : cr m u q i = 501
  · exact .inr (.inr h)
  · obtain ⟨c, hc⟩ := cr_ends hn p h
    rcases ends_small hc with e | e
    · exact .inr (.inl e)
    · exact .inl e
end
/-! ### one more letter -/
section
variable {m : Machine} {u : Word} {a q i r : Nat}
theorem sgn_in (hi : i ≤ u.length) : sgn m (u ++ [a]) i = sgn m u i := by
  unfold sgn
  by_cases h : i = 0
  · rw [if_pos h, if_pos h]
  · rw [if_neg h, if_neg h, List.getD_eq_getElem?_getD, List.getD_eq_getElem?_getD, List.getElem?_append_left (by omega)]
theorem sgn_last : sgn m (u ++ [a]) (u.length + 1) = a := by
  unfold sgn
  rw [if_neg (by omega), List.getD_eq_getElem?_getD]
  show (u ++ [a])[u.length]?.getD 0 = a
  simp
theorem len_app : (u ++ [a]).length = u.length + 1 := by simp
/-- within the word it goes as without the letter, until it goes out -/
theorem in_part (hi : i ≤ u.length) : (∃ q' i', i' ≤ u.length ∧ stT m u (q, i) = .inl (q', i') ∧ stT m (u ++ [a]) (q, i) = .inl (q', i')) ∨ (stT m u (q, i) = .inr 500 ∧ stT m (u ++ [a]) (q, i) = .inr 500) ∨
    ∃ r, r < m.n ∧ stT m u (q, i) = .inr r ∧ stT m (u ++ [a]) (q, i) = .inl (r, u.length + 1) := by
  have e := sgn_in (m := m) (a := a) hi
  cases h : m.rule q (sgn m u i) with
  | none => exact .inr (.inl ⟨stT_stop h, stT_stop (by rw [e]; exact h)⟩)
  | some x =>
    obtain ⟨r, b⟩ := x
    cases b with
    | true =>
      by_cases hl : i = u.length
      · refine .inr (.inr ⟨r, rule_lt h, stT_out h hl, ?_⟩)
        rw [stT_right (by rw [e]; exact h) (by rw [len_app]; omega), hl]
      · exact .inl ⟨r, i + 1, by omega, stT_right h hl, stT_right (by rw [e]; exact h) (by rw [len_app]; omega)⟩
    | false => exact .inl ⟨r, i - 1, by omega, stT_left h, stT_left (by rw [e]; exact h)⟩
theorem part_to : ∀ {c q i e : Nat}, i ≤ u.length → Ends (stT m (u ++ [a])) (q, i) e c → (e = 500 ∧ ∃ c', Ends (stT m u) (q, i) 500 c') ∨ ∃ r c1 c', r < m.n ∧ c' < c ∧ Ends (stT m u) (q, i) r c1 ∧ Ends (stT m (u ++ [a])) (r, u.length + 1) e c'
  | 0, _, _, _, _, h => absurd h.pos (by omega)
  | c + 1, q, i, e, hi, h => by
    rcases in_part (m := m) (a := a) (q := q) hi with ⟨q', i', hi', h1, h2⟩ | ⟨h1, h2⟩ | ⟨r, hr, h1, h2⟩
    · obtain ⟨c', hc, t⟩ := h.inl h2
      have ec : c' = c := by omega
      subst ec
      rcases part_to hi' t with ⟨e1, c2, t2⟩ | ⟨r, c1, c2, hr, hc2, t1, t2⟩
      · exact .inl ⟨e1, _, .on h1 t2⟩
      · exact .inr ⟨r, _, c2, hr, by omega, .on h1 t1, t2⟩
    · have z := h.inr h2
      exact .inl ⟨z, _, .here h1⟩
    · obtain ⟨c', hc, t⟩ := h.inl h2
      exact .inr ⟨r, _, c', hr, by omega, .here h1, t⟩
theorem part_stop {c : Nat} {s : Nat × Nat} {e : Nat} (h : Ends (stT m u) s e c) : e = 500 → s.2 ≤ u.length → m.n ≤ 500 → Ends (stT m (u ++ [a])) s 500 c := by
  induction h with
  | @here s e h =>
    obtain ⟨q, i⟩ := s
    intro e1 hi hn
    dsimp only at hi
    rcases in_part (m := m) (a := a) (q := q) hi with ⟨q', i', hi', h1, h2⟩ | ⟨h1, h2⟩ | ⟨r, hr, h1, h2⟩
    · rw [h1] at h; cases h
    · exact .here h2
    · rw [h1] at h; cases h; omega
  | @on s s' e c h _ ih =>
    obtain ⟨q, i⟩ := s
    intro e1 hi hn
    dsimp only at hi
    rcases in_part (m := m) (a := a) (q := q) hi with ⟨q', i', hi', h1, h2⟩ | ⟨h1, h2⟩ | ⟨r, hr, h1, h2⟩
    · rw [h1] at h; cases h
      exact .on h2 (ih e1 hi' hn)
    · rw [h1] at h; cases h
    · rw [h1] at h; cases h
theorem part_out {c : Nat} {s : Nat × Nat} {r : Nat} (h : Ends (stT m u) s r c) : r < m.n → s.2 ≤ u.length → m.n ≤ 500 → ∀ {e c' : Nat}, Ends (stT m (u ++ [a])) (r, u.length + 1) e c' → Ends (stT m (u ++ [a])) s e (c' + c) := by
  induction h with
  | @here s r h =>
    obtain ⟨q, i⟩ := s
    intro hr hi hn e c' t
    dsimp only at hi
    rcases in_part (m := m) (a := a) (q := q) hi with ⟨q', i', hi', h1, h2⟩ | ⟨h1, h2⟩ | ⟨r', hr', h1, h2⟩
    · rw [h1] at h; cases h
    · rw [h1] at h; cases h; omega
    · rw [h1] at h; cases h
      exact .on h2 t
  | @on s s' r c h _ ih =>
    obtain ⟨q, i⟩ := s
    intro hr hi hn e c' t
    dsimp only at hi
    rcases in_part (m := m) (a := a) (q := q) hi with ⟨q', i', hi', h1, h2⟩ | ⟨h1, h2⟩ | ⟨r', hr', h1, h2⟩
    · rw [h1] at h; cases h
      exact .on h2 (ih hr hi' hn t)
    · rw [h1] at h; cases h
    · rw [h1] at h; cases h
/-- from within the word: as without the letter; where that goes out, from there at the letter -/
theorem cr_in (hn : m.n ≤ 500) (hq : q < m.n) (hi : i ≤ u.length) : cr m (u ++ [a]) q i = if cr m u q i < m.n then cr m (u ++ [a]) (cr m u q i) (u.length + 1) else cr m u q i := by
  have p : InT m u (q, i) := ⟨hq, by dsimp only; omega⟩
  have p' : InT m (u ++ [a]) (q, i) := ⟨hq, by dsimp only; rw [len_app]; omega⟩
  by_cases h : cr m u q i < m.n
  · rw [if_pos h]
    obtain ⟨c, hc⟩ := cr_ends hn p (by omega)
    have p2 : InT m (u ++ [a]) (cr m u q i, u.length + 1) := ⟨h, by dsimp only; rw [len_app]; omega⟩
    by_cases h5 : cr m (u ++ [a]) (cr m u q i) (u.length + 1) = 501
    · rw [h5]
      refine cr_not p' fun e c' t => ?_
      rcases part_to hi t with ⟨_, c2, t2⟩ | ⟨r, c1, c2, hr, _, t1, t2⟩
      · have z := (t2.same hc).1
        omega
      · have z := (t1.same hc).1
        rw [z] at t2
        exact cr_none hn p2 h5 _ _ t2
    · obtain ⟨c2, t2⟩ := cr_ends hn p2 h5
      exact cr_of p' (part_out hc h hi hn t2)
  · rw [if_neg h]
    rcases cr_range hn p with z | z | z
    · exact absurd z h
    · obtain ⟨c, hc⟩ := cr_ends hn p (by omega)
      rw [z] at hc ⊢
      exact cr_of p' (part_stop hc rfl hi hn)
    · rw [z]
      refine cr_not p' fun e c' t => ?_
      rcases part_to hi t with ⟨_, c2, t2⟩ | ⟨r, c1, c2, hr, _, t1, t2⟩
      · exact cr_none hn p z _ _ t2
      · exact cr_none hn p z _ _ t1
/-- at the letter: what a table of the word before tells, t r: from state r at its last place -/
def stB (m : Machine) (a : Nat) (t : Nat → Nat) : Nat → Nat ⊕ Nat := fun q => match m.rule q a with
  | none => .inr 500
  | some (r, true) => .inr r
  | some (r, false) => if t r < m.n then .inl (t r) else .inr (t r)
def crB (m : Machine) (a : Nat) (t : Nat → Nat) (q : Nat) : Nat := endOf (goes (stB m a t) m.n q)
theorem stB_stop {t : Nat → Nat} (h : m.rule q a = none) : stB m a t q = .inr 500 := by unfold stB; rw [h]
theorem stB_out {t : Nat → Nat} (h : m.rule q a = some (r, true)) : stB m a t q = .inr r := by unfold stB; rw [h]
theorem stB_on {t : Nat → Nat} (h : m.rule q a = some (r, false)) (hr : t r < m.n) : stB m a t q = .inl (t r) := by unfold stB; rw [h]; dsimp only; rw [if_pos hr]
theorem stB_end {t : Nat → Nat} (h : m.rule q a = some (r, false)) (hr : ¬ t r < m.n) : stB m a t q = .inr (t r) := by unfold stB; rw [h]; dsimp only; rw [if_neg hr]
theorem stB_step {t : Nat → Nat} : ∀ s s', s < m.n → stB m a t s = .inl s' → s' < m.n := by
  intro q s' hq h
  cases e : m.rule q a with
  | none => rw [stB_stop e] at h; cases h
  | some x =>
    obtain ⟨r, b⟩ := x
    cases b with
    | true => rw [stB_out e] at h; cases h
    | false =>
      by_cases hr : t r < m.n
      · rw [stB_on e hr] at h; cases h; exact hr
      · rw [stB_end e hr] at h; cases h
theorem crB_of {t : Nat → Nat} {e c : Nat} (hq : q < m.n) (h : Ends (stB m a t) q e c) : crB m a t q = e := by
  unfold crB
  have z : goes (stB m a t) (c + m.n) q = goes (stB m a t) m.n q := goes_all (P := fun s => s < m.n) (code := id) stB_step (fun _ _ _ _ h => h) (fun _ h => h) hq (by omega)
  rw [← z, goes_mono (Nat.le_add_right _ _) h.goes]
  rfl
/-- the last letter's row: from the row of the word before -/
theorem cr_last (hn : m.n ≤ 500) (hq : q < m.n) : cr m (u ++ [a]) q (u.length + 1) = crB m a (fun r => cr m u r u.length) q := by
  have pl : ∀ {q}, q < m.n → InT m (u ++ [a]) (q, u.length + 1) := fun h => ⟨h, by dsimp only; rw [len_app]; omega⟩
  have pu : ∀ {r}, r < m.n → InT m u (r, u.length) := fun h => ⟨h, by dsimp only; omega⟩
  -- an end there is an end here
  have one : ∀ (c q e : Nat), q < m.n → Ends (stT m (u ++ [a])) (q, u.length + 1) e c → ∃ c', Ends (stB m a fun r => cr m u r u.length) q e c' := by
    intro c
    induction c using Nat.strongRecOn with
    | ind c ih =>
      intro q e hq h
      cases z : m.rule q a with
      | none =>
        have z1 := h.inr (stT_stop (by rw [sgn_last]; exact z))
        subst z1
        exact ⟨_, .here (stB_stop z)⟩
      | some x =>
        obtain ⟨r, b⟩ := x
        cases b with
        | true =>
          have z1 := h.inr (stT_out (by rw [sgn_last]; exact z) (by rw [len_app]))
          subst z1
          exact ⟨_, .here (stB_out z)⟩
        | false =>
          obtain ⟨c', hc, t⟩ := h.inl (stT_left (by rw [sgn_last]; exact z))
          have hr := rule_lt z
          have t : Ends (stT m (u ++ [a])) (r, u.length) e c' := t
          rcases part_to (Nat.le_refl _) t with ⟨e1, c2, t2⟩ | ⟨r', c1, c2, hr', hc2, t1, t2⟩
          · have z2 := cr_of (pu hr) t2
            refine ⟨1, .here ?_⟩
            have z3 := stB_end (t := fun r => cr m u r u.length) z (by omega)
            rw [z3, z2, e1]
          · have z2 := cr_of (pu hr) t1
            obtain ⟨c3, t3⟩ := ih c2 (by omega) r' e hr' t2
            refine ⟨_, .on ?_ t3⟩
            have z3 := stB_on (t := fun r => cr m u r u.length) z (by omega)
            rw [z3, z2]
  -- an end here is an end there, or none
  have two : ∀ {c q e : Nat}, Ends (stB m a fun r => cr m u r u.length) q e c → q < m.n → cr m (u ++ [a]) q (u.length + 1) = e := by
    intro c q e h
    induction h with
    | @here q e h =>
      intro hq
      cases z : m.rule q a with
      | none =>
        rw [stB_stop z] at h; cases h
        exact cr_of (pl hq) (.here (stT_stop (by rw [sgn_last]; exact z)))
      | some x =>
        obtain ⟨r, b⟩ := x
        cases b with
        | true =>
          rw [stB_out z] at h; cases h
          exact cr_of (pl hq) (.here (stT_out (by rw [sgn_last]; exact z) (by rw [len_app])))
        | false =>
          have hr := rule_lt z
          have st1 : stT m (u ++ [a]) (q, u.length + 1) = .inl (r, u.length) := stT_left (by rw [sgn_last]; exact z)
          by_cases ht : cr m u r u.length < m.n
          · rw [stB_on (t := fun r => cr m u r u.length) z ht] at h; cases h
          · rw [stB_end (t := fun r => cr m u r u.length) z ht] at h
            have h' : cr m u r u.length = e := Sum.inr.inj h
            rcases cr_range hn (pu hr) with y | y | y
            · exact absurd y ht
            · obtain ⟨c, hc⟩ := cr_ends hn (pu hr) (by omega)
              rw [y] at hc
              rw [← h', y]
              exact cr_of (pl hq) (.on st1 (part_stop hc rfl (Nat.le_refl _) hn))
            · rw [← h', y]
              refine cr_not (pl hq) fun e c t => ?_
              obtain ⟨c', _, t⟩ := t.inl st1
              rcases part_to (Nat.le_refl _) t with ⟨_, c2, t2⟩ | ⟨r', c1, c2, _, _, t1, _⟩
              · exact cr_none hn (pu hr) y _ _ t2
              · exact cr_none hn (pu hr) y _ _ t1
    | @on q q' e c h _ ih =>
      intro hq
      cases z : m.rule q a with
      | none => rw [stB_stop z] at h; cases h
      | some x =>
        obtain ⟨r, b⟩ := x
        cases b with
        | true => rw [stB_out z] at h; cases h
        | false =>
          have hr := rule_lt z
          have st1 : stT m (u ++ [a]) (q, u.length + 1) = .inl (r, u.length) := stT_left (by rw [sgn_last]; exact z)
          by_cases ht : cr m u r u.length < m.n
          · rw [stB_on (t := fun r => cr m u r u.length) z ht] at h
            have h' : cr m u r u.length = q' := Sum.inl.inj h
            have i1 := ih (by rw [← h']; exact ht)
            have i2 := cr_in (m := m) (u := u) (a := a) hn hr (Nat.le_refl _)
            rw [if_pos ht, h', i1] at i2
            by_cases h5 : e = 501
            · subst h5
              refine cr_not (pl hq) fun e c t => ?_
              obtain ⟨c', _, t⟩ := t.inl st1
              exact cr_none hn ⟨hr, by dsimp only; rw [len_app]; omega⟩ i2 _ _ t
            · obtain ⟨c2, t2⟩ := cr_ends (m := m) (u := u ++ [a]) (q := r) (i := u.length) hn ⟨hr, by dsimp only; rw [len_app]; omega⟩ (by omega)
              rw [i2] at t2
              exact cr_of (pl hq) (.on st1 t2)
          · rw [stB_end (t := fun r => cr m u r u.length) z ht] at h; cases h
  cases g : goes (stB m a fun r => cr m u r u.length) m.n q with
  | some x =>
    have h := ends_of (e := x.1) (c := x.2) g
    rw [crB_of hq h]
    exact two h hq
  | none =>
    have e1 : crB m a (fun r => cr m u r u.length) q = 501 := by unfold crB; rw [g]; rfl
    rw [e1]
    refine cr_not (pl hq) fun e c t => ?_
    obtain ⟨c', t'⟩ := one c q e hq t
    have z : goes (stB m a fun r => cr m u r u.length) (c' + m.n) q = goes (stB m a fun r => cr m u r u.length) m.n q := goes_all (P := fun s => s < m.n) (code := id) stB_step (fun _ _ _ _ h => h) (fun _ h => h) hq (by omega)
    rw [goes_mono (Nat.le_add_right _ _) t'.goes, g] at z
    cases z
end
end Mt

/-! ### a word's table by the table before; what a run does by the table -/
namespace Mt
open Rd11
section
variable {m : Machine} {u v w : Word} {a q i r : Nat}
theorem tableOf_eq : tableOf m u = cr m u 0 0 :: (List.range m.n).map fun q => cr m u q u.length := rfl
def rowT (T : List Nat) (r : Nat) : Nat := T.getD (r + 1) 501
def firstT (T : List Nat) : Nat := T.getD 0 501
theorem firstT_tab : firstT (tableOf m u) = cr m u 0 0 := rfl
theorem rowT_tab (hr : r < m.n) : rowT (tableOf m u) r = cr m u r u.length := by
  unfold rowT
  rw [tableOf_eq, List.getD_eq_getElem?_getD, List.getElem?_cons_succ, List.getElem?_map, List.getElem?_range hr]
  rfl
/-- the table of the word with one more letter -/
def nextT (m : Machine) (a : Nat) (T : List Nat) : List Nat :=
  (if firstT T < m.n then crB m a (rowT T) (firstT T) else firstT T) :: (List.range m.n).map fun q => crB m a (rowT T) q
theorem stB_congr {t t' : Nat → Nat} (h : ∀ r, r < m.n → t r = t' r) : stB m a t = stB m a t' := by
  funext q
  cases e : m.rule q a with
  | none => rw [stB_stop e, stB_stop e]
  | some x =>
    obtain ⟨r, b⟩ := x
    cases b with
    | true => rw [stB_out e, stB_out e]
    | false =>
      have hr := h r (rule_lt e)
      by_cases hl : t r < m.n
      · rw [stB_on e hl, stB_on e (by rw [← hr]; exact hl), hr]
      · rw [stB_end e hl, stB_end e (by rw [← hr]; exact hl), hr]
theorem crB_congr {t t' : Nat → Nat} (h : ∀ r, r < m.n → t r = t' r) (q : Nat) : crB m a t q = crB m a t' q := by
  unfold crB
  rw [stB_congr h]
theorem table_next (hn : m.n ≤ 500) (h0 : 0 < m.n) : tableOf m (u ++ [a]) = nextT m a (tableOf m u) := by
  unfold nextT
  rw [firstT_tab, tableOf_eq]
  have hc : ∀ q, crB m a (rowT (tableOf m u)) q = crB m a (fun r => cr m u r u.length) q := fun q => crB_congr (fun r hr => rowT_tab hr) q
  congr 1
  · rw [cr_in hn h0 (Nat.zero_le _)]
    by_cases h : cr m u 0 0 < m.n
    · rw [if_pos h, if_pos h, hc, cr_last hn h]
    · rw [if_neg h, if_neg h]
  · refine List.map_congr_left fun q hq => ?_
    rw [len_app, hc, cr_last hn (List.mem_range.mp hq)]
theorem table_congr (hn : m.n ≤ 500) (h0 : 0 < m.n) (h : tableOf m u = tableOf m v) (a : Nat) : tableOf m (u ++ [a]) = tableOf m (v ++ [a]) := by
  rw [table_next hn h0, table_next hn h0, h]
/-! ### the right end is a letter like others -/
def numE : End → Nat
  | .stops => 500
  | .leaves q => q
def mapS (x : (Nat × Nat) ⊕ End) : (Nat × Nat) ⊕ Nat := match x with
  | .inl s => .inl s
  | .inr e => .inr (numE e)
theorem sign_sgn (hi : i ≤ w.length + 1) : sign m w i = sgn m (w ++ [m.right]) i := by
  unfold sign
  by_cases h0 : i = 0
  · subst h0; rfl
  · rw [if_neg h0]
    by_cases h1 : i = w.length + 1
    · rw [if_pos h1, h1, sgn_last]
    · rw [if_neg h1, sgn_in (by omega)]
      unfold sgn
      rw [if_neg h0]
theorem stp_stT (hi : i ≤ w.length + 1) : stT m (w ++ [m.right]) (q, i) = mapS (stp m w (q, i)) := by
  have e := sign_sgn (m := m) hi
  cases h : m.rule q (sign m w i) with
  | none =>
    rw [stT_stop (by rw [← e]; exact h)]
    unfold stp; dsimp only; rw [h]; rfl
  | some x =>
    obtain ⟨r, b⟩ := x
    cases b with
    | true =>
      by_cases hl : i = w.length + 1
      · rw [stT_out (by rw [← e]; exact h) (by rw [len_app]; exact hl)]
        unfold stp; dsimp only; rw [h]; dsimp only; rw [if_pos hl]; rfl
      · rw [stT_right (by rw [← e]; exact h) (by rw [len_app]; exact hl)]
        unfold stp; dsimp only; rw [h]; dsimp only; rw [if_neg hl]; rfl
    | false =>
      rw [stT_left (by rw [← e]; exact h)]
      unfold stp; dsimp only; rw [h]; rfl
theorem goes_stp : ∀ {f q i : Nat}, Plc m w (q, i) → goes (stT m (w ++ [m.right])) f (q, i) = (goes (stp m w) f (q, i)).map fun x => (numE x.1, x.2)
  | 0, _, _, _ => rfl
  | f + 1, q, i, p => by
    have hi : i < w.length + 2 := p.2
    have e := stp_stT (m := m) (w := w) (q := q) (i := i) (by omega)
    cases h : stp m w (q, i) with
    | inr x => rw [goes_end h, goes_end (by rw [e, h]; rfl)]; rfl
    | inl s =>
      have p' := plc_step _ _ p h
      obtain ⟨q', i'⟩ := s
      rw [goes_on h, goes_on (s' := (q', i')) (by rw [e, h]; rfl), goes_stp p']
      cases goes (stp m w) f (q', i') <;> rfl
/-- how a run ends, as a number: 500 it stops, 501 never, else the state in which it leaves -/
def fate (m : Machine) (w : Word) : Nat := match Rd11.run m w with
  | none => 501
  | some (e, _) => numE e
theorem fate_cr (h0 : 0 < m.n) : fate m w = cr m (w ++ [m.right]) 0 0 := by
  have p : Plc m w (0, 0) := ⟨h0, by dsimp only; omega⟩
  have p' : InT m (w ++ [m.right]) (0, 0) := ⟨h0, by dsimp only; omega⟩
  have hl : m.n * ((w ++ [m.right]).length + 1) = m.n * (w.length + 2) := by rw [len_app]
  rw [← cr_goes p' (Nat.le_refl _), hl, goes_stp p]
  unfold fate
  rw [run_goes h0]
  cases goes (stp m w) (m.n * (w.length + 2)) (0, 0) <;> rfl
def fateT (m : Machine) (T : List Nat) : Nat := firstT (nextT m m.right T)
theorem fate_tab (hn : m.n ≤ 500) (h0 : 0 < m.n) : fate m w = fateT m (tableOf m w) := by
  unfold fateT
  rw [fate_cr h0, ← table_next hn h0, firstT_tab]
theorem fate_lt (hn : m.n ≤ 500) (h0 : 0 < m.n) : fate m w < m.n ∨ fate m w = 500 ∨ fate m w = 501 := by
  rw [fate_cr h0]
  exact cr_range hn ⟨h0, by dsimp only; omega⟩
/-- the run's end by its number -/
theorem run_fate (hn : m.n ≤ 500) (h0 : 0 < m.n) : (fate m w = 501 ↔ Rd11.run m w = none) ∧ (fate m w = 500 ↔ ∃ c, Rd11.run m w = some (.stops, c)) ∧ ∀ q, q < m.n → (fate m w = q ↔ ∃ c, Rd11.run m w = some (.leaves q, c)) := by
  have hl := fate_lt (m := m) (w := w) hn h0
  unfold fate at hl ⊢
  cases h : Rd11.run m w with
  | none =>
    refine ⟨⟨fun _ => rfl, fun _ => rfl⟩, ⟨fun z => (by cases z), fun ⟨c, z⟩ => (by cases z)⟩, fun q hq => ⟨fun z => ?_, fun ⟨c, z⟩ => (by cases z)⟩⟩
    have z : 501 = q := z
    omega
  | some x =>
    obtain ⟨e, c⟩ := x
    rw [h] at hl
    cases e with
    | stops =>
      refine ⟨⟨fun z => (by cases z), fun z => (by cases z)⟩, ⟨fun _ => ⟨c, rfl⟩, fun _ => rfl⟩, fun q hq => ⟨fun z => ?_, fun ⟨c, z⟩ => (by cases z)⟩⟩
      have z : 500 = q := z
      omega
    | leaves r =>
      have hr : r < m.n := by
        have := plc_inj (m := m) (w := w)
        have e1 := run_goes (m := m) (w := w) h0
        rw [h] at e1
        -- the state in which it leaves is a state
        have e2 := ends_of e1.symm
        have : ∀ {s : Nat × Nat} {e : End} {c : Nat}, Ends (stp m w) s e c → ∀ r, e = .leaves r → r < m.n := by
          intro s e c t
          induction t with
          | @here s e t =>
            intro r er
            subst er
            obtain ⟨q, i⟩ := s
            unfold stp at t
            dsimp only at t
            cases z : m.rule q (sign m w i) with
            | none => rw [z] at t; cases t
            | some x =>
              obtain ⟨r', b⟩ := x
              rw [z] at t
              cases b with
              | true =>
                dsimp only at t
                by_cases hw : i = w.length + 1
                · rw [if_pos hw] at t; cases t; exact rule_lt z
                · rw [if_neg hw] at t; cases t
              | false => cases t
          | on _ _ ih => exact ih
        exact this e2 r rfl
      refine ⟨⟨fun z => ?_, fun z => (by cases z)⟩, ⟨fun z => ?_, fun ⟨c, z⟩ => (by cases z)⟩, fun q hq => ⟨fun z => ?_, fun ⟨c, z⟩ => ?_⟩⟩
      · have z : r = 501 := z
        omega
      · have z : r = 500 := z
        omega
      · have z : r = q := z
        subst z
        exact ⟨c, rfl⟩
      · cases z
        rfl
def takesT (m : Machine) (T : List Nat) : Bool := decide (fateT m T < m.n) && m.good.testBit (fateT m T)
theorem takes_tab (hn : m.n ≤ 500) (h0 : 0 < m.n) : takes m w = takesT m (tableOf m w) := by
  unfold takesT
  rw [← fate_tab hn h0]
  obtain ⟨f1, f2, f3⟩ := run_fate (m := m) (w := w) hn h0
  unfold takes
  rcases fate_lt (m := m) (w := w) hn h0 with h | h | h
  · obtain ⟨c, hc⟩ := (f3 _ h).mp rfl
    rw [hc, decide_eq_true h]
    rfl
  · obtain ⟨c, hc⟩ := f2.mp h
    rw [hc, decide_eq_false (by omega)]
    rfl
  · rw [f1.mp h, decide_eq_false (by omega)]
    rfl
end
end Mt

/-! ### words in their order; the first words of all tables -/
namespace Mt
open Rd11
theorem lower_cons {a b : Nat} {r s : Word} : lower (a :: r) (b :: s) = true ↔ a < b ∨ (a = b ∧ lower r s = true) := by
  show (decide (a < b) || (a == b && lower r s)) = true ↔ _
  rw [Bool.or_eq_true, Bool.and_eq_true, decide_eq_true_eq, beq_iff_eq]
theorem lower_trans : ∀ {u v w : Word}, lower u v = true → lower v w = true → lower u w = true
  | [], _, _, h, _ => by cases h
  | _ :: _, [], _, h, _ => by cases h
  | _ :: _, _ :: _, [], _, h => by cases h
  | a :: r, b :: s, c :: t, h1, h2 => by
    rw [lower_cons] at *
    rcases h1 with h1 | ⟨rfl, h1⟩
    · rcases h2 with h2 | ⟨rfl, h2⟩
      · exact .inl (by omega)
      · exact .inl h1
    · rcases h2 with h2 | ⟨rfl, h2⟩
      · exact .inl h2
      · exact .inr ⟨rfl, lower_trans h1 h2⟩
theorem lower_irr : ∀ {u : Word}, lower u u = true → False
  | [], h => by cases h
  | a :: r, h => by
    rcases lower_cons.mp h with h | ⟨_, h⟩
    · omega
    · exact lower_irr h
theorem lower_app : ∀ {u v : Word}, lower u v = true → ∀ x y : Word, lower (u ++ x) (v ++ y) = true
  | [], _, h, _, _ => by cases h
  | _ :: _, [], h, _, _ => by cases h
  | a :: r, b :: s, h, x, y => by
    show lower (a :: (r ++ x)) (b :: (s ++ y)) = true
    rw [lower_cons] at *
    rcases h with h | ⟨e, h⟩
    · exact .inl h
    · exact .inr ⟨e, lower_app h x y⟩
theorem lower_pre : ∀ (u : Word) {x y : Word}, lower x y = true → lower (u ++ x) (u ++ y) = true
  | [], _, _, h => h
  | a :: r, x, y, h => by
    show lower (a :: (r ++ x)) (a :: (r ++ y)) = true
    rw [lower_cons]
    exact .inr ⟨rfl, lower_pre r h⟩
theorem before_iff {u v : Word} : before u v = true ↔ u.length < v.length ∨ (u.length = v.length ∧ lower u v = true) := by
  unfold before
  rw [Bool.or_eq_true, Bool.and_eq_true, decide_eq_true_eq, beq_iff_eq]
theorem before_trans {u v w : Word} (h1 : before u v = true) (h2 : before v w = true) : before u w = true := by
  rw [before_iff] at *
  rcases h1 with h1 | ⟨e1, h1⟩
  · rcases h2 with h2 | ⟨e2, h2⟩
    · exact .inl (by omega)
    · exact .inl (by omega)
  · rcases h2 with h2 | ⟨e2, h2⟩
    · exact .inl (by omega)
    · exact .inr ⟨by omega, lower_trans h1 h2⟩
theorem before_irr {u : Word} (h : before u u = true) : False := by
  rcases before_iff.mp h with h | ⟨_, h⟩
  · omega
  · exact lower_irr h
theorem before_snoc {u v : Word} {a : Nat} (h : before u v = true) : before (u ++ [a]) (v ++ [a]) = true := by
  rw [before_iff] at *
  rw [List.length_append, List.length_append]
  rcases h with h | ⟨e, h⟩
  · exact .inl (by omega)
  · exact .inr ⟨by omega, lower_app h _ _⟩
theorem letters_snoc {k a : Nat} {w : Word} : letters k (w ++ [a]) = true ↔ letters k w = true ∧ a < k := by
  unfold letters
  rw [List.all_append, Bool.and_eq_true]
  simp
theorem snoc_ind {P : Word → Prop} (h0 : P []) (h1 : ∀ w a, P w → P (w ++ [a])) : ∀ w, P w := by
  intro w
  have z : ∀ r : Word, P r.reverse := fun r => by
    induction r with
    | nil => exact h0
    | cons a r ih => rw [List.reverse_cons]; exact h1 _ _ ih
  have e := z w.reverse
  rw [List.reverse_reverse] at e
  exact e
/-! ### a round -/
section
variable {k : Nat} {t : Word → List Nat}
def addK (t : Word → List Nat) (s : List Kind × List Kind) (w : Word) : List Kind × List Kind :=
  if (s.1.any fun y => y.2 == t w) = true then s else (s.1 ++ [(w, t w)], s.2 ++ [(w, t w)])
def heirs (k : Nat) (now : List Kind) : List Word := now.flatMap fun x => (List.range k).map fun a => x.1 ++ [a]
theorem kindsFrom_succ (f : Nat) (l now : List Kind) : kindsFrom k t (f + 1) l now =
    if ((heirs k now).foldl (addK t) (l, [])).2.isEmpty = true then ((heirs k now).foldl (addK t) (l, [])).1 else kindsFrom k t f ((heirs k now).foldl (addK t) (l, [])).1 ((heirs k now).foldl (addK t) (l, [])).2 := rfl
/-- words with their tables, in their order, no two tables alike -/
structure Ks (k : Nat) (t : Word → List Nat) (l : List Kind) : Prop where
  tab : ∀ y ∈ l, y.2 = t y.1 ∧ letters k y.1 = true
  dist : l.Pairwise fun x y => x.2 ≠ y.2
  sort : l.Pairwise fun x y => before x.1 y.1 = true
theorem Ks.snoc {l : List Kind} (K : Ks k t l) {w : Word} (hw : letters k w = true) (hb : ∀ y ∈ l, before y.1 w = true) (hd : ∀ y ∈ l, y.2 ≠ t w) : Ks k t (l ++ [(w, t w)]) := by
  refine ⟨fun y hy => ?_, List.pairwise_append.mpr ⟨K.dist, List.pairwise_singleton _ _, fun x hx y hy => ?_⟩, List.pairwise_append.mpr ⟨K.sort, List.pairwise_singleton _ _, fun x hx y hy => ?_⟩⟩
  · rcases List.mem_append.mp hy with h | h
    · exact K.tab y h
    · have e := List.mem_singleton.mp h
      subst e
      exact ⟨rfl, hw⟩
  · have e := List.mem_singleton.mp hy
    subst e
    exact hd x hx
  · have e := List.mem_singleton.mp hy
    subst e
    exact hb x hx
theorem fold_add : ∀ (cs : List Word) (l N : List Kind), Ks k t (l ++ N) → cs.Pairwise (fun x y => before x y = true) → (∀ w ∈ cs, letters k w = true ∧ ∀ y ∈ l ++ N, before y.1 w = true) →
    ∃ M : List Kind, cs.foldl (addK t) (l ++ N, N) = (l ++ (N ++ M), N ++ M) ∧ Ks k t (l ++ (N ++ M)) ∧ (∀ y ∈ M, y.1 ∈ cs) ∧ ∀ w ∈ cs, ∃ y ∈ l ++ (N ++ M), y.2 = t w ∧ (y.1 = w ∨ before y.1 w = true)
  | [], l, N, K, _, _ => ⟨[], by rw [List.append_nil]; rfl, by rw [List.append_nil]; exact K, fun _ h => absurd h (by simp), fun _ h => absurd h (by simp)⟩
  | c :: cs, l, N, K, hp, hc => by
    obtain ⟨p1, p2⟩ := List.pairwise_cons.mp hp
    obtain ⟨c1, c2⟩ := hc c (List.mem_cons_self ..)
    rw [List.foldl_cons]
    by_cases h : ((l ++ N).any fun y => y.2 == t c) = true
    · have e : addK t (l ++ N, N) c = (l ++ N, N) := by unfold addK; rw [if_pos h]
      rw [e]
      obtain ⟨M, h1, h2, h3, h4⟩ := fold_add cs l N K p2 fun w hw => hc w (List.mem_cons_of_mem _ hw)
      refine ⟨M, h1, h2, fun y hy => List.mem_cons_of_mem _ (h3 y hy), fun w hw => ?_⟩
      rcases List.mem_cons.mp hw with rfl | hw
      · obtain ⟨y, hy, hy2⟩ := List.any_eq_true.mp h
        refine ⟨y, ?_, by simpa using hy2, .inr (c2 y hy)⟩
        rw [← List.append_assoc]
        exact List.mem_append.mpr (.inl hy)
      · exact h4 w hw
    · have e : addK t (l ++ N, N) c = (l ++ (N ++ [(c, t c)]), N ++ [(c, t c)]) := by unfold addK; rw [if_neg h, List.append_assoc]
      rw [e]
      have hd : ∀ y ∈ l ++ N, y.2 ≠ t c := fun y hy z => h (List.any_eq_true.mpr ⟨y, hy, by simpa using z⟩)
      have K2 := K.snoc c1 c2 hd
      rw [List.append_assoc] at K2
      obtain ⟨M, h1, h2, h3, h4⟩ := fold_add cs l (N ++ [(c, t c)]) K2 p2 fun w hw => by
        obtain ⟨w1, w2⟩ := hc w (List.mem_cons_of_mem _ hw)
        refine ⟨w1, fun y hy => ?_⟩
        rw [← List.append_assoc] at hy
        rcases List.mem_append.mp hy with hy | hy
        · exact w2 y hy
        · have e := List.mem_singleton.mp hy
          subst e
          exact p1 w hw
      rw [List.append_assoc] at h1 h2 h4
      refine ⟨[(c, t c)] ++ M, h1, h2, fun y hy => ?_, fun w hw => ?_⟩
      · rcases List.mem_append.mp hy with hy | hy
        · have e := List.mem_singleton.mp hy
          subst e
          exact List.mem_cons_self ..
        · exact List.mem_cons_of_mem _ (h3 y hy)
      · rcases List.mem_cons.mp hw with rfl | hw
        · refine ⟨(w, t w), ?_, rfl, .inl rfl⟩
          simp
        · exact h4 w hw
theorem heirs_mem {now : List Kind} {w : Word} : w ∈ heirs k now ↔ ∃ y ∈ now, ∃ a, a < k ∧ w = y.1 ++ [a] := by
  unfold heirs
  rw [List.mem_flatMap]
  constructor
  · rintro ⟨y, hy, h⟩
    obtain ⟨a, ha, rfl⟩ := List.mem_map.mp h
    exact ⟨y, hy, a, List.mem_range.mp ha, rfl⟩
  · rintro ⟨y, hy, a, ha, rfl⟩
    exact ⟨y, hy, List.mem_map.mpr ⟨a, List.mem_range.mpr ha, rfl⟩⟩
theorem heirs_sort {now : List Kind} (hs : now.Pairwise fun x y => before x.1 y.1 = true) {d : Nat} (hd : ∀ y ∈ now, y.1.length = d) : (heirs k now).Pairwise fun x y => before x y = true := by
  unfold heirs
  rw [List.pairwise_flatMap]
  constructor
  · intro y _
    rw [List.pairwise_map]
    refine List.pairwise_lt_range.imp fun {a b} h => ?_
    rw [before_iff, List.length_append, List.length_append]
    exact .inr ⟨rfl, lower_pre _ (lower_cons.mpr (.inl h))⟩
  · refine List.Pairwise.imp_of_mem ?_ hs
    intro x y hx hy h u hu v hv
    obtain ⟨a, _, rfl⟩ := List.mem_map.mp hu
    obtain ⟨b, _, rfl⟩ := List.mem_map.mp hv
    have e1 := hd x hx
    have e2 := hd y hy
    rw [before_iff] at h ⊢
    rw [List.length_append, List.length_append]
    rcases h with h | ⟨_, h⟩
    · omega
    · exact .inr ⟨by simp only [List.length_cons, List.length_nil]; omega, lower_app h _ _⟩
/-- the layers up to d are told -/
structure Lay (k : Nat) (t : Word → List Nat) (d : Nat) (pre now : List Kind) : Prop where
  ks : Ks k t (pre ++ now)
  pr : ∀ y ∈ pre, y.1.length < d
  nw : ∀ y ∈ now, y.1.length = d
  all : ∀ w, letters k w = true → w.length ≤ d → ∃ y ∈ pre ++ now, y.2 = t w ∧ (y.1 = w ∨ before y.1 w = true)
theorem Lay.next (cong : ∀ u v a, a < k → t u = t v → t (u ++ [a]) = t (v ++ [a])) {d : Nat} {pre now : List Kind} (L : Lay k t d pre now) :
    ∃ M, (heirs k now).foldl (addK t) (pre ++ now, []) = (pre ++ now ++ M, M) ∧ Lay k t (d + 1) (pre ++ now) M := by
  have hs : now.Pairwise fun x y => before x.1 y.1 = true := (List.pairwise_append.mp L.ks.sort).2.1
  obtain ⟨M, h1, h2, h3, h4⟩ := fold_add (k := k) (t := t) (heirs k now) (pre ++ now) [] (by rw [List.append_nil]; exact L.ks) (heirs_sort hs L.nw) fun w hw => by
    obtain ⟨y, hy, a, ha, rfl⟩ := heirs_mem.mp hw
    refine ⟨letters_snoc.mpr ⟨(L.ks.tab y (List.mem_append.mpr (.inr hy))).2, ha⟩, fun z hz => ?_⟩
    rw [List.append_nil] at hz
    rw [before_iff, List.length_append]
    have e1 := L.nw y hy
    refine .inl ?_
    rcases List.mem_append.mp hz with hz | hz
    · have := L.pr z hz
      simp only [List.length_cons, List.length_nil]
      omega
    · have := L.nw z hz
      simp only [List.length_cons, List.length_nil]
      omega
  rw [List.nil_append] at h1 h2 h4
  rw [List.append_nil] at h1
  refine ⟨M, h1, h2, fun y hy => ?_, fun y hy => ?_, fun w hw hl => ?_⟩
  · rcases List.mem_append.mp hy with hy | hy
    · have := L.pr y hy
      omega
    · have := L.nw y hy
      omega
  · obtain ⟨z, hz, a, _, e⟩ := heirs_mem.mp (h3 y hy)
    rw [e, List.length_append, L.nw z hz]
    rfl
  · rcases Nat.lt_or_ge d w.length with hlt | hge
    · -- a word of the next layer
      have hw' : w ≠ [] := fun e => by rw [e] at hlt; simp at hlt
      obtain ⟨w', a, rfl⟩ : ∃ w' a, w = w' ++ [a] := ⟨w.dropLast, w.getLast hw', (List.dropLast_concat_getLast hw').symm⟩
      obtain ⟨lw, la⟩ := letters_snoc.mp hw
      rw [List.length_append] at hl hlt
      simp only [List.length_cons, List.length_nil] at hl hlt
      obtain ⟨y, hy, ey, hb⟩ := L.all w' lw (by omega)
      have hb2 : y.1 ++ [a] = w' ++ [a] ∨ before (y.1 ++ [a]) (w' ++ [a]) = true := by
        rcases hb with e | e
        · exact .inl (by rw [e])
        · exact .inr (before_snoc e)
      have ly := (L.ks.tab y hy).2
      have ty := (L.ks.tab y hy).1
      have et : t (y.1 ++ [a]) = t (w' ++ [a]) := cong _ _ a la (ty ▸ ey)
      have fin : ∀ z ∈ pre ++ now ++ M, z.2 = t (y.1 ++ [a]) → (z.1 = y.1 ++ [a] ∨ before z.1 (y.1 ++ [a]) = true) → ∃ y ∈ pre ++ now ++ M, y.2 = t (w' ++ [a]) ∧ (y.1 = w' ++ [a] ∨ before y.1 (w' ++ [a]) = true) := fun z hz ez hzb => by
        refine ⟨z, hz, ez.trans et, ?_⟩
        rcases hzb with e | e
        · rw [e]; exact hb2
        · rcases hb2 with e2 | e2
          · rw [← e2]; exact .inr e
          · exact .inr (before_trans e e2)
      rcases List.mem_append.mp hy with hy | hy
      · obtain ⟨z, hz, ez, hzb⟩ := L.all (y.1 ++ [a]) (letters_snoc.mpr ⟨ly, la⟩) (by have := L.pr y hy; rw [List.length_append]; simp only [List.length_cons, List.length_nil]; omega)
        exact fin z (List.mem_append.mpr (.inl hz)) ez hzb
      · obtain ⟨z, hz, ez, hzb⟩ := h4 (y.1 ++ [a]) (heirs_mem.mpr ⟨y, hy, a, la, rfl⟩)
        exact fin z hz ez hzb
    · obtain ⟨y, hy, hyy⟩ := L.all w hw hge
      exact ⟨y, List.mem_append.mpr (.inl hy), hyy⟩
/-- every word has the table of one that is told, itself or one before -/
structure AllK (k : Nat) (t : Word → List Nat) (l : List Kind) : Prop where
  ks : Ks k t l
  all : ∀ w, letters k w = true → ∃ y ∈ l, y.2 = t w ∧ (y.1 = w ∨ before y.1 w = true)
theorem Lay.done (cong : ∀ u v a, a < k → t u = t v → t (u ++ [a]) = t (v ++ [a])) {d : Nat} {l : List Kind} (L : Lay k t (d + 1) l []) : AllK k t l := by
  have ks := L.ks
  rw [List.append_nil] at ks
  refine ⟨ks, fun w => ?_⟩
  refine snoc_ind (P := fun w => letters k w = true → ∃ y ∈ l, y.2 = t w ∧ (y.1 = w ∨ before y.1 w = true)) (fun _ => ?_) (fun w a ih hw => ?_) w
  · obtain ⟨y, hy, z⟩ := L.all [] rfl (Nat.zero_le _)
    rw [List.append_nil] at hy
    exact ⟨y, hy, z⟩
  · obtain ⟨lw, la⟩ := letters_snoc.mp hw
    obtain ⟨y, hy, ey, hb⟩ := ih lw
    obtain ⟨ty, ly⟩ := ks.tab y hy
    have hly : y.1.length < d + 1 := L.pr y hy
    obtain ⟨z, hz, ez, hzb⟩ := L.all (y.1 ++ [a]) (letters_snoc.mpr ⟨ly, la⟩) (by rw [List.length_append]; simp only [List.length_cons, List.length_nil]; omega)
    rw [List.append_nil] at hz
    have et : t (y.1 ++ [a]) = t (w ++ [a]) := cong _ _ a la (ty ▸ ey)
    refine ⟨z, hz, ez.trans et, ?_⟩
    have hb2 : y.1 ++ [a] = w ++ [a] ∨ before (y.1 ++ [a]) (w ++ [a]) = true := by
      rcases hb with e | e
      · exact .inl (by rw [e])
      · exact .inr (before_snoc e)
    rcases hzb with e | e
    · rw [e]; exact hb2
    · rcases hb2 with e2 | e2
      · rw [← e2]; exact .inr e
      · exact .inr (before_trans e e2)
theorem kindsFrom_all (cong : ∀ u v a, a < k → t u = t v → t (u ++ [a]) = t (v ++ [a])) {B : Nat} (bound : ∀ l : List Kind, Ks k t l → l.length ≤ B) : ∀ (f d : Nat) (pre now : List Kind), Lay k t d pre now → B < (pre ++ now).length + f →
    AllK k t (kindsFrom k t f (pre ++ now) now) ∧ ∃ M, kindsFrom k t f (pre ++ now) now = pre ++ now ++ M
  | 0, d, pre, now, L, hf => absurd (bound _ L.ks) (by omega)
  | f + 1, d, pre, now, L, hf => by
    obtain ⟨M, h1, L2⟩ := L.next cong
    rw [kindsFrom_succ, h1]
    dsimp only
    by_cases hM : M.isEmpty = true
    · have e : M = [] := List.isEmpty_iff.mp hM
      subst e
      rw [if_pos hM, List.append_nil]
      exact ⟨L2.done cong, [], by rw [List.append_nil]⟩
    · rw [if_neg hM]
      have hl : 0 < M.length := List.length_pos_iff.mpr fun e => hM (by rw [e]; rfl)
      obtain ⟨a, M2, e2⟩ := kindsFrom_all cong bound f (d + 1) (pre ++ now) M L2 (by rw [List.length_append] at hf ⊢; rw [List.length_append]; omega)
      exact ⟨a, M ++ M2, by rw [e2, List.append_assoc (pre ++ now)]⟩
/-- **the first words of all tables** -/
theorem kinds_all (cong : ∀ u v a, a < k → t u = t v → t (u ++ [a]) = t (v ++ [a])) {B : Nat} (bound : ∀ l : List Kind, Ks k t l → l.length ≤ B) :
    AllK k t (kinds B k t) ∧ ∃ M, kinds B k t = ([], t []) :: M := by
  have L0 : Lay k t 0 [] [([], t [])] := by
    refine ⟨⟨fun y hy => ?_, List.pairwise_singleton _ _, List.pairwise_singleton _ _⟩, fun y hy => absurd hy (by simp), fun y hy => ?_, fun w hw hl => ?_⟩
    · have e := List.mem_singleton.mp hy
      subst e
      exact ⟨rfl, rfl⟩
    · have e := List.mem_singleton.mp hy
      subst e
      rfl
    · have e : w = [] := List.eq_nil_of_length_eq_zero (by omega)
      subst e
      exact ⟨_, List.mem_singleton.mpr rfl, rfl, .inl rfl⟩
  obtain ⟨a, M, e⟩ := kindsFrom_all cong bound B 0 [] [([], t [])] L0 (by show B < 1 + B; omega)
  exact ⟨a, M, e⟩
end
end Mt

/-! ### there are no more tables than told; the first word, halts, same -/
namespace Mt
open Rd11
def digs (b : Nat) : List Nat → Nat
  | [] => 0
  | d :: r => digs b r * b + d
theorem digs_lt {b : Nat} : ∀ {l : List Nat}, (∀ d ∈ l, d < b) → digs b l < b ^ l.length
  | [], _ => by show 0 < 1; omega
  | d :: r, h => by
    show digs b r * b + d < b ^ (r.length + 1)
    rw [Nat.pow_succ]
    exact code_lt (digs_lt fun x hx => h x (List.mem_cons_of_mem _ hx)) (h d (List.mem_cons_self ..))
theorem digs_inj {b : Nat} : ∀ {l l' : List Nat}, l.length = l'.length → (∀ d ∈ l, d < b) → (∀ d ∈ l', d < b) → digs b l = digs b l' → l = l'
  | [], [], _, _, _, _ => rfl
  | [], _ :: _, h, _, _, _ => by cases h
  | _ :: _, [], h, _, _, _ => by cases h
  | d :: r, d' :: r', h, h1, h2, e => by
    obtain ⟨e1, e2⟩ := code_inj (h1 d (List.mem_cons_self ..)) (h2 d' (List.mem_cons_self ..)) e
    rw [e2, digs_inj (by simpa using h) (fun x hx => h1 x (List.mem_cons_of_mem _ hx)) (fun x hx => h2 x (List.mem_cons_of_mem _ hx)) e1]
def enE (n e : Nat) : Nat := if e < n then e else if e = 500 then n else n + 1
theorem enE_lt (n e : Nat) : enE n e < n + 2 := by
  unfold enE
  split
  · omega
  · split <;> omega
theorem enE_inj {n e e' : Nat} (h : e < n ∨ e = 500 ∨ e = 501) (h' : e' < n ∨ e' = 500 ∨ e' = 501) (z : enE n e = enE n e') : e = e' := by
  unfold enE at z
  split at z
  · split at z
    · exact z
    · split at z <;> omega
  · split at z
    · split at z
      · omega
      · split at z <;> omega
    · split at z
      · omega
      · split at z <;> omega
section
variable {m o : Machine} {k : Nat}
theorem table_len (u : Word) : (tableOf m u).length = m.n + 1 := by
  rw [tableOf_eq, List.length_cons, List.length_map, List.length_range]
theorem table_ent (hn : m.n ≤ 500) (h0 : 0 < m.n) (u : Word) : ∀ e ∈ tableOf m u, e < m.n ∨ e = 500 ∨ e = 501 := by
  intro e he
  rw [tableOf_eq] at he
  rcases List.mem_cons.mp he with rfl | he
  · exact cr_range hn ⟨h0, by dsimp only; omega⟩
  · obtain ⟨q, hq, rfl⟩ := List.mem_map.mp he
    exact cr_range hn ⟨List.mem_range.mp hq, by dsimp only; omega⟩
theorem map_inj_on {n : Nat} : ∀ {l l' : List Nat}, (∀ e ∈ l, e < n ∨ e = 500 ∨ e = 501) → (∀ e ∈ l', e < n ∨ e = 500 ∨ e = 501) → l.map (enE n) = l'.map (enE n) → l = l'
  | [], [], _, _, _ => rfl
  | [], _ :: _, _, _, h => by cases h
  | _ :: _, [], _, _, h => by cases h
  | a :: r, b :: s, h1, h2, h => by
    rw [List.map_cons, List.map_cons] at h
    obtain ⟨e1, e2⟩ := List.cons.inj h
    rw [enE_inj (h1 a (List.mem_cons_self ..)) (h2 b (List.mem_cons_self ..)) e1, map_inj_on (fun x hx => h1 x (List.mem_cons_of_mem _ hx)) (fun x hx => h2 x (List.mem_cons_of_mem _ hx)) e2]
def cw (m : Machine) (w : Word) : Nat := digs (m.n + 2) ((tableOf m w).map (enE m.n))
theorem cw_lt (w : Word) : cw m w < many m.n := by
  unfold cw many
  have z := digs_lt (b := m.n + 2) (l := (tableOf m w).map (enE m.n)) fun d hd => by
    obtain ⟨e, _, rfl⟩ := List.mem_map.mp hd
    exact enE_lt _ _
  rw [List.length_map, table_len] at z
  exact z
theorem cw_inj (hn : m.n ≤ 500) (h0 : 0 < m.n) {u v : Word} (h : cw m u = cw m v) : tableOf m u = tableOf m v := by
  refine map_inj_on (table_ent hn h0 u) (table_ent hn h0 v) (digs_inj ?_ ?_ ?_ h)
  · rw [List.length_map, List.length_map, table_len, table_len]
  · intro d hd
    obtain ⟨e, _, rfl⟩ := List.mem_map.mp hd
    exact enE_lt _ _
  · intro d hd
    obtain ⟨e, _, rfl⟩ := List.mem_map.mp hd
    exact enE_lt _ _
theorem bound_of {t : Word → List Nat} {B : Nat} (c : Word → Nat) (lt : ∀ w, c w < B) (inj : ∀ u v, c u = c v → t u = t v) : ∀ l : List Kind, Ks k t l → l.length ≤ B := by
  intro l K
  have z := few_below B (l.map fun y => c y.1) (by
    unfold List.Nodup
    rw [List.pairwise_map]
    refine List.Pairwise.imp_of_mem ?_ K.dist
    intro x y hx hy h e
    exact h (by rw [(K.tab x hx).1, (K.tab y hy).1]; exact inj _ _ e)) fun x hx => by
    obtain ⟨y, _, rfl⟩ := List.mem_map.mp hx
    exact lt _
  rw [List.length_map] at z
  exact z
/-- the kinds of a machine -/
theorem kinds_one (hn : m.n ≤ 500) (h0 : 0 < m.n) : AllK k (tableOf m) (kinds (many m.n) k (tableOf m)) ∧ ∃ M, kinds (many m.n) k (tableOf m) = ([], tableOf m []) :: M :=
  kinds_all (fun u v a _ h => table_congr hn h0 h a) (bound_of (cw m) cw_lt fun u v => cw_inj hn h0)
theorem takes_same (hn : m.n ≤ 500) (h0 : 0 < m.n) {u v : Word} (h : tableOf m u = tableOf m v) : takes m u = takes m v := by
  rw [takes_tab hn h0, takes_tab hn h0, h]
end
end Mt

/-! ### the one that only goes on: its states are the kinds; how many words are taken -/
namespace Mt
open Rd11
section
variable {m : Machine}
def ksOf (m : Machine) : List Kind := kinds (many m.n) m.k (tableOf m)
def wd (m : Machine) (i : Nat) : Word := ((ksOf m).getD i ([], [])).1
def go (m : Machine) (i a : Nat) : Nat := (ksOf m).findIdx fun y => y.2 == tableOf m (wd m i ++ [a])
def DD (m : Machine) : Nat := (ksOf m).length
theorem wd_at {i : Nat} (hi : i < (ksOf m).length) : wd m i = (ksOf m)[i].1 := by
  unfold wd
  rw [List.getD_eq_getElem?_getD, List.getElem?_eq_getElem hi]
  rfl
theorem wd_let (hn : m.n ≤ 500) (h0 : 0 < m.n) {i : Nat} (hi : i < DD m) : letters m.k (wd m i) = true := by
  rw [wd_at hi]
  exact ((kinds_one hn h0).1.ks.tab _ (List.getElem_mem hi)).2
theorem go_is (hn : m.n ≤ 500) (h0 : 0 < m.n) {i a : Nat} (hi : i < DD m) (ha : a < m.k) : go m i a < DD m ∧ tableOf m (wd m (go m i a)) = tableOf m (wd m i ++ [a]) := by
  obtain ⟨A, _⟩ := kinds_one (k := m.k) hn h0
  obtain ⟨y, hy, ey, _⟩ := A.all (wd m i ++ [a]) (letters_snoc.mpr ⟨wd_let hn h0 hi, ha⟩)
  have hl : go m i a < (ksOf m).length := List.findIdx_lt_length_of_exists ⟨y, hy, by simpa using ey⟩
  refine ⟨hl, ?_⟩
  have z := List.findIdx_getElem (w := hl)
  rw [wd_at hl, ← ((A.ks.tab _ (List.getElem_mem hl)).1)]
  exact eq_of_beq z
theorem onward_eq : onward m = (ksOf m).map fun x => (takes m x.1, (List.range m.k).map fun a => (ksOf m).findIdx fun y => y.2 == tableOf m (x.1 ++ [a])) := rfl
theorem onward_len : (onward m).length = DD m := by rw [onward_eq, List.length_map]; rfl
theorem onward_at {i : Nat} (hi : i < DD m) : (onward m)[i]? = some (takes m (wd m i), (List.range m.k).map (go m i)) := by
  rw [onward_eq, List.getElem?_map, List.getElem?_eq_getElem hi]
  show some _ = some _
  rw [wd_at hi]
  unfold go
  rw [wd_at hi]
theorem start_is (hn : m.n ≤ 500) (h0 : 0 < m.n) : 0 < DD m ∧ wd m 0 = [] := by
  obtain ⟨_, M, e⟩ := kinds_one (k := m.k) hn h0
  have e' : ksOf m = ([], tableOf m []) :: M := e
  unfold DD wd
  rw [e']
  exact ⟨by simp, rfl⟩
/-! ### counting -/
def Nc (m : Machine) (u : Word) (s : Nat) : Nat := ((words m.k s).filter fun w => takes m (u ++ w)).length
theorem Nc_zero (u : Word) : Nc m u 0 = if takes m u = true then 1 else 0 := by
  show (([[]] : List Word).filter fun w => takes m (u ++ w)).length = _
  rw [List.filter_cons, List.append_nil]
  by_cases h : takes m u = true
  · rw [if_pos h, if_pos h]; rfl
  · rw [if_neg h, if_neg h]; rfl
theorem Nc_succ (u : Word) (s : Nat) : Nc m u (s + 1) = ((List.range m.k).map fun a => Nc m (u ++ [a]) s).sum := by
  unfold Nc
  show (((List.range m.k).flatMap fun a => (words m.k s).map fun w => a :: w).filter fun w => takes m (u ++ w)).length = _
  rw [List.filter_flatMap, List.length_flatMap]
  congr 1
  refine List.map_congr_left fun a _ => ?_
  rw [List.filter_map, List.length_map]
  congr 1
  refine List.filter_congr fun w _ => ?_
  show takes m (u ++ a :: w) = takes m (u ++ [a] ++ w)
  rw [List.append_assoc]
  rfl
theorem table_app (hn : m.n ≤ 500) (h0 : 0 < m.n) {u v : Word} (h : tableOf m u = tableOf m v) : ∀ w, tableOf m (u ++ w) = tableOf m (v ++ w) := by
  refine snoc_ind ?_ fun w a ih => ?_
  · rw [List.append_nil, List.append_nil]; exact h
  · rw [← List.append_assoc, ← List.append_assoc]
    exact table_congr hn h0 ih a
theorem Nc_same (hn : m.n ≤ 500) (h0 : 0 < m.n) {u v : Word} (h : tableOf m u = tableOf m v) (s : Nat) : Nc m u s = Nc m v s := by
  unfold Nc
  congr 1
  refine List.filter_congr fun w _ => ?_
  exact takes_same hn h0 (table_app hn h0 h w)
def cstep (d : List Rd11.State) (p : Nat) (c : List Nat) : List Nat := d.map fun x => (x.2.map fun r => c.getD r 0).sum % p
def c0 (d : List Rd11.State) : List Nat := d.map fun x => if x.1 = true then 1 else 0
theorem sum_mod (p : Nat) {α : Type} (f g : α → Nat) : ∀ (l : List α), (∀ a ∈ l, f a % p = g a % p) → (l.map f).sum % p = (l.map g).sum % p
  | [], _ => rfl
  | a :: r, h => by
    rw [List.map_cons, List.map_cons, List.sum_cons, List.sum_cons, Nat.add_mod, h a (List.mem_cons_self ..), sum_mod p f g r fun x hx => h x (List.mem_cons_of_mem _ hx), ← Nat.add_mod]
def iter {α : Type} (f : α → α) (a : α) : Nat → α
  | 0 => a
  | n + 1 => f (iter f a n)
theorem fold_iter {α : Type} (f : α → α) : ∀ (n : Nat) (a : α), (List.range n).foldl (fun c (_ : Nat) => f c) a = iter f a n
  | 0, _ => rfl
  | n + 1, a => by
    rw [List.range_succ, List.foldl_append, fold_iter f n a]
    rfl
theorem count_at (hn : m.n ≤ 500) (h0 : 0 < m.n) (p : Nat) : ∀ (s i : Nat), i < DD m → (iter (cstep (onward m) p) (c0 (onward m)) s).getD i 0 % p = Nc m (wd m i) s % p
  | 0, i, hi => by
    show (c0 (onward m)).getD i 0 % p = _
    unfold c0
    rw [List.getD_eq_getElem?_getD, List.getElem?_map, onward_at hi, Nc_zero]
    rfl
  | s + 1, i, hi => by
    show (cstep (onward m) p (iter (cstep (onward m) p) (c0 (onward m)) s)).getD i 0 % p = _
    unfold cstep
    rw [List.getD_eq_getElem?_getD, List.getElem?_map, onward_at hi, Nc_succ]
    show ((((List.range m.k).map (go m i)).map fun r => (iter (cstep (onward m) p) (c0 (onward m)) s).getD r 0).sum % p) % p = _
    rw [Nat.mod_mod, List.map_map]
    refine sum_mod p _ _ _ fun a ha => ?_
    obtain ⟨g1, g2⟩ := go_is hn h0 hi (List.mem_range.mp ha)
    show (iter (cstep (onward m) p) (c0 (onward m)) s).getD (go m i a) 0 % p = _
    rw [count_at hn h0 p s _ g1, Nc_same hn h0 g2]
/-- **how many words of a length are taken** -/
theorem count_is (hn : m.n ≤ 500) (h0 : 0 < m.n) (len p : Nat) : countOf m len p = ((words m.k len).filter (takes m)).length % p := by
  have e : countOf m len p = (iter (cstep (onward m) p) (c0 (onward m)) len).getD 0 0 % p := by
    rw [← fold_iter]
    rfl
  obtain ⟨d0, w0⟩ := start_is hn h0
  rw [e, count_at hn h0 p len 0 d0, w0]
  rfl
end
end Mt

/-! ### how many kinds of words that are alike -/
namespace Mt
open Rd11
def cl (c : List Nat) (q : Nat) : Nat := c.getD q 0
def ksv (d : List Rd11.State) (c : List Nat) : List (Nat × List Nat) := (List.range d.length).map fun q => (c.getD q 0, ((d.getD q (false, [])).2.map fun r => c.getD r 0))
def ref (d : List Rd11.State) (c : List Nat) : List Nat := (ksv d c).map fun x => (ksv d c).findIdx fun y => y == x
theorem classes_succ (d : List Rd11.State) (n : Nat) (c : List Nat) : classes d (n + 1) c = if ref d c = c then c else classes d n (ref d c) := rfl
theorem ref_len (d : List Rd11.State) (c : List Nat) : (ref d c).length = d.length := by
  unfold ref ksv
  rw [List.length_map, List.length_map, List.length_range]
theorem ksv_len (d : List Rd11.State) (c : List Nat) : (ksv d c).length = d.length := by
  unfold ksv
  rw [List.length_map, List.length_range]
theorem ksv_at {d : List Rd11.State} {c : List Nat} {q : Nat} (hq : q < (ksv d c).length) : (ksv d c)[q] = (cl c q, ((d.getD q (false, [])).2.map fun r => cl c r)) := by
  have e : (ksv d c)[q]? = some (cl c q, ((d.getD q (false, [])).2.map fun r => cl c r)) := by
    rw [ksv_len] at hq
    unfold ksv
    rw [List.getElem?_map, List.getElem?_range hq]
    rfl
  rw [List.getElem?_eq_getElem hq] at e
  exact Option.some.inj e
theorem cl_ref {d : List Rd11.State} {c : List Nat} {q : Nat} (hq : q < (ksv d c).length) : cl (ref d c) q = (ksv d c).findIdx fun y => y == (ksv d c)[q] := by
  unfold cl ref
  rw [List.getD_eq_getElem?_getD, List.getElem?_map, List.getElem?_eq_getElem hq]
  rfl
/-- it holds the least place of each class -/
structure Can (D : Nat) (c : List Nat) : Prop where
  len : c.length = D
  le : ∀ q, q < D → cl c q ≤ q
  fix : ∀ q, q < D → cl c (cl c q) = cl c q
theorem ref_iff {d : List Rd11.State} {c : List Nat} {q r : Nat} (hq : q < d.length) (hr : r < d.length) : cl (ref d c) q = cl (ref d c) r ↔ (ksv d c)[q]'(by rw [ksv_len]; exact hq) = (ksv d c)[r]'(by rw [ksv_len]; exact hr) := by
  have hq' : q < (ksv d c).length := by rw [ksv_len]; exact hq
  have hr' : r < (ksv d c).length := by rw [ksv_len]; exact hr
  rw [cl_ref hq', cl_ref hr']
  constructor
  · intro h
    have l1 : (ksv d c).findIdx (fun y => y == (ksv d c)[q]) < (ksv d c).length := List.findIdx_lt_length_of_exists ⟨_, List.getElem_mem hq', by simp⟩
    have l2 : (ksv d c).findIdx (fun y => y == (ksv d c)[r]) < (ksv d c).length := List.findIdx_lt_length_of_exists ⟨_, List.getElem_mem hr', by simp⟩
    have e1 := eq_of_beq (List.findIdx_getElem (w := l1))
    have e2 := eq_of_beq (List.findIdx_getElem (w := l2))
    rw [← e1, ← e2]
    congr 1
  · intro h
    rw [h]
theorem ref_can (d : List Rd11.State) (c : List Nat) : Can d.length (ref d c) := by
  have le : ∀ q, q < d.length → cl (ref d c) q ≤ q := fun q hq => by
    have hq' : q < (ksv d c).length := by rw [ksv_len]; exact hq
    rw [cl_ref hq']
    exact Nat.not_lt.mp fun h => by
      have z := List.not_of_lt_findIdx h
      simp at z
  refine ⟨ref_len d c, le, fun q hq => ?_⟩
  have hq' : q < (ksv d c).length := by rw [ksv_len]; exact hq
  have l1 := le q hq
  have hj : cl (ref d c) q < d.length := by omega
  rw [ref_iff hj hq]
  have l2 : (ksv d c).findIdx (fun y => y == (ksv d c)[q]) < (ksv d c).length := List.findIdx_lt_length_of_exists ⟨_, List.getElem_mem hq', by simp⟩
  have e1 := eq_of_beq (List.findIdx_getElem (w := l2))
  have e2 := cl_ref (d := d) (c := c) hq'
  rw [← e1]
  congr 1
def cnt (D : Nat) (c : List Nat) : Nat := ((List.range D).filter fun q => cl c q == q).length
theorem cnt_le (D : Nat) (c : List Nat) : cnt D c ≤ D := by
  unfold cnt
  have z := List.length_filter_le (fun q => cl c q == q) (List.range D)
  rw [List.length_range] at z
  exact z
theorem filter_lt {α : Type} {p p' : α → Bool} : ∀ (l : List α), (∀ x ∈ l, p x = true → p' x = true) → (l.filter p).length ≤ (l.filter p').length ∧ ((∃ x ∈ l, p' x = true ∧ p x = false) → (l.filter p).length < (l.filter p').length)
  | [], _ => ⟨Nat.le_refl _, fun ⟨_, h, _⟩ => absurd h (by simp)⟩
  | a :: r, h => by
    obtain ⟨i1, i2⟩ := filter_lt r fun x hx => h x (List.mem_cons_of_mem _ hx)
    have ha := h a (List.mem_cons_self ..)
    rw [List.filter_cons, List.filter_cons]
    cases e : p a with
    | true =>
      rw [if_pos rfl, if_pos (ha e), List.length_cons, List.length_cons]
      refine ⟨by omega, fun ⟨x, hx, h1, h2⟩ => ?_⟩
      rcases List.mem_cons.mp hx with rfl | hx
      · rw [e] at h2; cases h2
      · have := i2 ⟨x, hx, h1, h2⟩
        omega
    | false =>
      rw [if_neg Bool.false_ne_true]
      cases e' : p' a with
      | true =>
        rw [if_pos rfl, List.length_cons]
        exact ⟨by omega, fun _ => by omega⟩
      | false =>
        rw [if_neg Bool.false_ne_true]
        refine ⟨i1, fun ⟨x, hx, h1, h2⟩ => ?_⟩
        rcases List.mem_cons.mp hx with rfl | hx
        · rw [e'] at h1; cases h1
        · exact i2 ⟨x, hx, h1, h2⟩
/-- parted further, or as it was -/
theorem can_grow {D : Nat} {c c' : List Nat} (C : Can D c) (C' : Can D c') (h : ∀ q r, q < D → r < D → cl c' q = cl c' r → cl c q = cl c r) : c' = c ∨ cnt D c < cnt D c' := by
  have sub : ∀ q ∈ List.range D, (cl c q == q) = true → (cl c' q == q) = true := fun q hq e => by
    have hq' := List.mem_range.mp hq
    rw [beq_iff_eq] at e ⊢
    have l1 := C'.le q hq'
    have z := h (cl c' q) q (by omega) hq' (C'.fix q hq')
    have l2 := C.le (cl c' q) (by omega)
    omega
  obtain ⟨_, g⟩ := filter_lt (p := fun q => cl c q == q) (p' := fun q => cl c' q == q) (List.range D) sub
  by_cases hx : ∃ x ∈ List.range D, (cl c' x == x) = true ∧ (cl c x == x) = false
  · exact .inr (g hx)
  · refine .inl ?_
    have key : ∀ q, q < D → cl c' q = cl c q := fun q hq => by
      have l1 := C'.le q hq
      have e1 := C'.fix q hq
      have e2 : cl c (cl c' q) = cl c' q := by
        cases z : cl c (cl c' q) == cl c' q with
        | true => exact eq_of_beq z
        | false => exact absurd ⟨cl c' q, List.mem_range.mpr (by omega), by rw [beq_iff_eq]; exact e1, z⟩ hx
      have e3 := h (cl c' q) q (by omega) hq e1
      omega
    refine List.ext_getElem (by rw [C.len, C'.len]) fun i h1 h2 => ?_
    have z := key i (by rw [← C'.len]; exact h1)
    unfold cl at z
    rw [List.getD_eq_getElem?_getD, List.getD_eq_getElem?_getD, List.getElem?_eq_getElem h1, List.getElem?_eq_getElem h2] at z
    exact z
theorem ref_fine {d : List Rd11.State} {c : List Nat} : ∀ q r, q < d.length → r < d.length → cl (ref d c) q = cl (ref d c) r → cl c q = cl c r := by
  intro q r hq hr h
  have z := (ref_iff hq hr).mp h
  rw [ksv_at, ksv_at] at z
  exact congrArg Prod.fst z
/-- what stays through the rounds, and the last one is a rest -/
theorem classes_rest (d : List Rd11.State) (I : List Nat → Prop) (hI : ∀ c, I c → I (ref d c)) : ∀ (f : Nat) (c : List Nat), Can d.length c → d.length < cnt d.length c + f → I c → I (classes d f c) ∧ ref d (classes d f c) = classes d f c
  | 0, c, _, h, _ => absurd (cnt_le d.length c) (by omega)
  | f + 1, c, C, h, i => by
    rw [classes_succ]
    by_cases e : ref d c = c
    · rw [if_pos e]
      exact ⟨i, e⟩
    · rw [if_neg e]
      have C' := ref_can d c
      rcases can_grow C C' ref_fine with z | z
      · exact absurd z e
      · exact classes_rest d I hI f (ref d c) C' (by omega) (hI c i)
theorem classes_all (d : List Rd11.State) (h0 : 0 < d.length) (I : List Nat → Prop) (hI : ∀ c, I c → I (ref d c)) (c : List Nat) (i : I c) : I (classes d (d.length + 1) c) ∧ ref d (classes d (d.length + 1) c) = classes d (d.length + 1) c := by
  rw [classes_succ]
  by_cases e : ref d c = c
  · rw [if_pos e]
    exact ⟨i, e⟩
  · rw [if_neg e]
    have C' := ref_can d c
    refine classes_rest d I hI d.length (ref d c) C' ?_ (hI c i)
    have : 0 < cnt d.length (ref d c) := by
      unfold cnt
      refine List.length_pos_of_mem (a := 0) (List.mem_filter.mpr ⟨List.mem_range.mpr h0, ?_⟩)
      rw [beq_iff_eq]
      exact Nat.le_zero.mp (C'.le 0 h0)
    omega
theorem nodup_eraseDups : ∀ (n : Nat) (l : List Nat), l.length ≤ n → l.eraseDups.Nodup
  | _, [], _ => by simp
  | 0, _ :: _, h => by simp at h
  | n + 1, a :: r, h => by
    rw [List.eraseDups_cons]
    refine List.nodup_cons.mpr ⟨fun m => ?_, nodup_eraseDups n _ ?_⟩
    · have z := (List.mem_filter.mp (List.mem_eraseDups.mp m)).2
      simp at z
    · have z := List.length_filter_le (fun b => !b == a) r
      rw [List.length_cons] at h
      omega
section
variable {m : Machine}
theorem alike_symm {u v : Word} (h : Alike m u v) : Alike m v u := fun w hw => (h w hw).symm
theorem alike_trans {u v w : Word} (h : Alike m u v) (h' : Alike m v w) : Alike m u w := fun x hx => (h x hx).trans (h' x hx)
theorem alike_tab (hn : m.n ≤ 500) (h0 : 0 < m.n) {u v : Word} (h : tableOf m u = tableOf m v) : Alike m u v := fun w _ => takes_same hn h0 (table_app hn h0 h w)
theorem letters_cons {k a : Nat} {w : Word} : letters k (a :: w) = true ↔ a < k ∧ letters k w = true := by
  unfold letters
  rw [List.all_cons, Bool.and_eq_true, decide_eq_true_eq]
theorem alike_go (hn : m.n ≤ 500) (h0 : 0 < m.n) {q r a : Nat} (hq : q < DD m) (hr : r < DD m) (ha : a < m.k) (h : Alike m (wd m q) (wd m r)) : Alike m (wd m (go m q a)) (wd m (go m r a)) := by
  obtain ⟨_, e1⟩ := go_is hn h0 hq ha
  obtain ⟨_, e2⟩ := go_is hn h0 hr ha
  intro w hw
  rw [alike_tab hn h0 e1 w hw, alike_tab hn h0 e2 w hw, List.append_assoc, List.append_assoc]
  exact h ([a] ++ w) (letters_cons.mpr ⟨ha, hw⟩)
theorem onward_get {q : Nat} (hq : q < DD m) : (onward m).getD q (false, []) = (takes m (wd m q), (List.range m.k).map (go m q)) := by
  rw [List.getD_eq_getElem?_getD, onward_at hq]
  rfl
theorem ksv_iff {c : List Nat} {q r : Nat} (hq : q < DD m) (hr : r < DD m) : cl (ref (onward m) c) q = cl (ref (onward m) c) r ↔ cl c q = cl c r ∧ ∀ a, a < m.k → cl c (go m q a) = cl c (go m r a) := by
  rw [ref_iff (by rw [onward_len]; exact hq) (by rw [onward_len]; exact hr), ksv_at, ksv_at, onward_get hq, onward_get hr]
  dsimp only
  rw [List.map_map, List.map_map, Prod.mk.injEq]
  constructor
  · rintro ⟨e1, e2⟩
    refine ⟨e1, fun a ha => ?_⟩
    exact List.map_inj_left.mp e2 a (List.mem_range.mpr ha)
  · rintro ⟨e1, e2⟩
    exact ⟨e1, List.map_inj_left.mpr fun a ha => e2 a (List.mem_range.mp ha)⟩
/-- the classes at the end: just those that are alike -/
theorem classes_is (hn : m.n ≤ 500) (h0 : 0 < m.n) : ∃ c : List Nat, c = classes (onward m) ((onward m).length + 1) ((onward m).map fun (x : Rd11.State) => if x.1 = true then 1 else 0) ∧ c.length = DD m ∧ ∀ q r, q < DD m → r < DD m → (cl c q = cl c r ↔ Alike m (wd m q) (wd m r)) := by
  have hD := (start_is hn h0).1
  have hcl0 : ∀ q, q < DD m → cl ((onward m).map fun (x : Rd11.State) => if x.1 = true then 1 else 0) q = if takes m (wd m q) = true then 1 else 0 := fun q hq => by
    unfold cl
    rw [List.getD_eq_getElem?_getD, List.getElem?_map, onward_at hq]
    rfl
  obtain ⟨⟨i0, i1, i2⟩, rest⟩ := classes_all (onward m) (by rw [onward_len]; exact hD)
    (fun c => c.length = DD m ∧ (∀ q r, q < DD m → r < DD m → Alike m (wd m q) (wd m r) → cl c q = cl c r) ∧ ∀ q r, q < DD m → r < DD m → cl c q = cl c r → takes m (wd m q) = takes m (wd m r))
    (fun c ⟨_, h1, h2⟩ => ⟨by rw [ref_len, onward_len], fun q r hq hr h => (ksv_iff hq hr).mpr ⟨h1 q r hq hr h, fun a ha => h1 _ _ (go_is hn h0 hq ha).1 (go_is hn h0 hr ha).1 (alike_go hn h0 hq hr ha h)⟩,
      fun q r hq hr h => h2 q r hq hr ((ksv_iff hq hr).mp h).1⟩)
    ((onward m).map fun (x : Rd11.State) => if x.1 = true then 1 else 0)
    ⟨by rw [List.length_map, onward_len], fun q r hq hr h => by
        have z := h [] rfl
        rw [List.append_nil, List.append_nil] at z
        rw [hcl0 q hq, hcl0 r hr, z],
      fun q r hq hr h => by
        rw [hcl0 q hq, hcl0 r hr] at h
        cases e1 : takes m (wd m q) <;> cases e2 : takes m (wd m r) <;> first | rfl | (rw [e1, e2] at h; simp at h)⟩
  refine ⟨_, rfl, i0, fun q r hq hr => ⟨fun h => ?_, i1 q r hq hr⟩⟩
  generalize classes (onward m) ((onward m).length + 1) ((onward m).map fun (x : Rd11.State) => if x.1 = true then 1 else 0) = c at *
  have step : ∀ q r, q < DD m → r < DD m → cl c q = cl c r → ∀ a, a < m.k → cl c (go m q a) = cl c (go m r a) := fun q r hq hr h => by
    rw [← rest] at h
    exact ((ksv_iff hq hr).mp h).2
  have all : ∀ (w : Word) (q r : Nat), q < DD m → r < DD m → cl c q = cl c r → letters m.k w = true → takes m (wd m q ++ w) = takes m (wd m r ++ w) := by
    intro w
    induction w with
    | nil =>
      intro q r hq hr h _
      rw [List.append_nil, List.append_nil]
      exact i2 q r hq hr h
    | cons a w ih =>
      intro q r hq hr h hw
      obtain ⟨ha, hw'⟩ := letters_cons.mp hw
      obtain ⟨g1, e1⟩ := go_is hn h0 hq ha
      obtain ⟨g2, e2⟩ := go_is hn h0 hr ha
      have z := ih _ _ g1 g2 (step q r hq hr h a ha) hw'
      rw [alike_tab hn h0 e1 w hw', alike_tab hn h0 e2 w hw', List.append_assoc, List.append_assoc] at z
      exact z
  exact fun w hw => all w q r hq hr h hw
/-- **how many kinds of words that are alike** -/
theorem states_is (hn : m.n ≤ 500) (h0 : 0 < m.n) : States m (statesOf m) := by
  obtain ⟨c, hc, hl, hcl⟩ := classes_is (m := m) hn h0
  have e : statesOf m = c.eraseDups.length := by
    rw [hc]
    rfl
  have at_ : ∀ v ∈ c.eraseDups, c.findIdx (fun x => x == v) < DD m ∧ cl c (c.findIdx fun x => x == v) = v := fun v hv => by
    have hl' : c.findIdx (fun x => x == v) < c.length := List.findIdx_lt_length_of_exists ⟨v, List.mem_eraseDups.mp hv, by simp⟩
    have z := eq_of_beq (List.findIdx_getElem (w := hl'))
    refine ⟨by rw [← hl]; exact hl', ?_⟩
    unfold cl
    rw [List.getD_eq_getElem?_getD, List.getElem?_eq_getElem hl']
    exact z
  refine ⟨c.eraseDups.map fun v => wd m (c.findIdx fun x => x == v), by rw [List.length_map, e], fun u hu => ?_, ?_, fun u hu => ?_⟩
  · obtain ⟨v, hv, rfl⟩ := List.mem_map.mp hu
    exact wd_let hn h0 (at_ v hv).1
  · rw [List.pairwise_map]
    refine List.Pairwise.imp_of_mem ?_ (nodup_eraseDups c.length c (Nat.le_refl _))
    intro v v' hv hv' hne ha
    have z := (hcl _ _ (at_ v hv).1 (at_ v' hv').1).mpr ha
    rw [(at_ v hv).2, (at_ v' hv').2] at z
    exact hne z
  · obtain ⟨A, _⟩ := kinds_one (k := m.k) hn h0
    obtain ⟨y, hy, ey, _⟩ := A.all u hu
    obtain ⟨i, hi, rfl⟩ := List.getElem_of_mem hy
    have hi' : i < DD m := hi
    have hwi : tableOf m (wd m i) = tableOf m u := by
      rw [wd_at hi]
      exact (A.ks.tab _ (List.getElem_mem hi)).1.symm.trans ey
    have hv : cl c i ∈ c.eraseDups := by
      refine List.mem_eraseDups.mpr ?_
      unfold cl
      rw [List.getD_eq_getElem?_getD, List.getElem?_eq_getElem (by rw [hl]; exact hi')]
      exact List.getElem_mem _
    refine ⟨_, List.mem_map.mpr ⟨cl c i, hv, rfl⟩, ?_⟩
    have z := (hcl i _ hi' (at_ _ hv).1).mp (at_ _ hv).2.symm
    exact alike_trans (alike_tab hn h0 hwi.symm) z
/-- there is but one such number -/
theorem states_le {c c' : Nat} (h : States m c) (h' : States m c') : c ≤ c' := by
  obtain ⟨l, hl, _, hp, _⟩ := h
  obtain ⟨l', hl', _, _, hc'⟩ := h'
  have letl : ∀ u ∈ l, letters m.k u = true := by assumption
  have pick : ∀ u : Word, ∃ i : Nat, u ∈ l → i < l'.length ∧ Alike m u (l'.getD i []) := fun u => by
    by_cases hu : u ∈ l
    · obtain ⟨v, hv, ha⟩ := hc' u (letl u hu)
      obtain ⟨i, hi, e⟩ := List.getElem_of_mem hv
      refine ⟨i, fun _ => ⟨hi, ?_⟩⟩
      rw [List.getD_eq_getElem?_getD, List.getElem?_eq_getElem hi]
      show Alike m u l'[i]
      rw [e]
      exact ha
    · exact ⟨0, fun z => absurd z hu⟩
  have hf := fun u => Classical.choose_spec (pick u)
  have z := few_below l'.length (l.map fun u => Classical.choose (pick u)) (by
    unfold List.Nodup
    rw [List.pairwise_map]
    refine List.Pairwise.imp_of_mem ?_ hp
    intro u v hu hv hne e
    have a1 := (hf u hu).2
    have a2 := (hf v hv).2
    rw [e] at a1
    exact hne (alike_trans a1 (alike_symm a2))) fun x hx => by
    obtain ⟨u, hu, rfl⟩ := List.mem_map.mp hx
    exact (hf u hu).1
  rw [List.length_map, hl, hl'] at z
  exact z
theorem states_one {c c' : Nat} (h : States m c) (h' : States m c') : c = c' := Nat.le_antisymm (states_le h h') (states_le h' h)
end
end Mt

/-! ### a word's table as it is told -/
namespace Mt
open Rd11
section
variable {m : Machine} {u : Word}
/-- as it is told: 255 where it never goes out -/
def shownT (n e : Nat) : Nat := if e < n then e else 255
end
end Mt

/-! ### tables as the landed text makes them: 255 where it never goes out -/
namespace Mt
open Rd11 Rd11Neutral
/-- what stands at q, s -/
def ent (k : Nat) (rs : List Nat) (s q : Nat) : Nat := rs.getD (q * (k + 2) + s) 255
/-- it goes on from the sign, so often at the most -/
def crossP (k : Nat) (rs t : List Nat) (s : Nat) : Nat → Nat → Nat
  | 0, _ => 255
  | f + 1, q => if ent k rs s q = 255 then 255 else if ent k rs s q % 2 = 1 then ent k rs s q / 2 else
    if t.getD (1 + ent k rs s q / 2) 255 = 255 then 255 else crossP k rs t s f (t.getD (1 + ent k rs s q / 2) 255)
theorem crossP_succ (k : Nat) (rs t : List Nat) (s f q : Nat) : crossP k rs t s (f + 1) q = if ent k rs s q = 255 then 255 else if ent k rs s q % 2 = 1 then ent k rs s q / 2 else
    if t.getD (1 + ent k rs s q / 2) 255 = 255 then 255 else crossP k rs t s f (t.getD (1 + ent k rs s q / 2) 255) := rfl
def rowP (n k : Nat) (rs t : List Nat) (s : Nat) : List Nat := (List.range n).map (crossP k rs t s n)
def longerP (n k : Nat) (rs t : List Nat) (s : Nat) : List Nat := (if t.getD 0 255 = 255 then 255 else (rowP n k rs t s).getD (t.getD 0 255) 255) :: rowP n k rs t s
def nothingP (n : Nat) : List Nat := 0 :: List.replicate n 255
def emptyP (n k : Nat) (rs : List Nat) : List Nat := longerP n k rs (nothingP n) k
/-- a table's form -/
structure TabOk (n : Nat) (t : List Nat) : Prop where
  len : t.length = n + 1
  small : ∀ x ∈ t, x < n ∨ x = 255
theorem TabOk.at {n : Nat} {t : List Nat} (h : TabOk n t) {i : Nat} (hi : i < n + 1) : ∃ x, t[i]? = some x ∧ t.getD i 255 = x ∧ (x < n ∨ x = 255) := by
  have e : i < t.length := by rw [h.len]; exact hi
  refine ⟨t[i], List.getElem?_eq_getElem e, ?_, h.small _ (List.getElem_mem e)⟩
  rw [List.getD_eq_getElem?_getD, List.getElem?_eq_getElem e]
  rfl
section
variable {n k g s q : Nat} {rs t : List Nat}
/-- a rule: where it stands, what it can be -/
theorem ent_at (hl : rs.length = n * (k + 2)) (hf : rulesFit n k rs = true) (hq : q < n) (hs : s < k + 2) : rs[q * (k + 2) + s]? = some (ent k rs s q) ∧ (ent k rs s q = 255 ∨ (ent k rs s q < 2 * n ∧ (s = k → ent k rs s q % 2 = 1))) := by
  have hidx : q * (k + 2) + s < rs.length := by rw [hl]; exact code_lt hq hs
  have hr := List.getElem?_eq_getElem hidx
  have e : ent k rs s q = rs[q * (k + 2) + s] := by
    unfold ent
    rw [List.getD_eq_getElem?_getD, hr]
    rfl
  rw [e]
  refine ⟨hr, ?_⟩
  have hfit := ruleFit_iff.mp (rulesFit_iff.mp hf _ _ hr)
  have em : (q * (k + 2) + s) % (k + 2) = s := by
    rw [Nat.add_comm, Nat.add_mul_mod_self_right, Nat.mod_eq_of_lt hs]
  rw [em] at hfit
  exact hfit
theorem rule_stop (hn : n ≤ 5) (hl : rs.length = n * (k + 2)) (hf : rulesFit n k rs = true) (hq : q < n) (hs : s < k + 2) (h : ent k rs s q = 255) : Machine.rule ⟨n, k, rs, g⟩ q s = none := by
  obtain ⟨hr, _⟩ := ent_at hl hf hq hs
  have he : Machine.entry ⟨n, k, rs, g⟩ q s = ent k rs s q := by
    show rs.getD (q * (k + 2) + s) (2 * n) = _
    rw [List.getD_eq_getElem?_getD, hr]
    rfl
  unfold Machine.rule
  rw [he, if_neg (by show ¬ ent k rs s q < 2 * n; omega)]
theorem rule_on (hl : rs.length = n * (k + 2)) (hf : rulesFit n k rs = true) (hq : q < n) (hs : s < k + 2) (h : ent k rs s q ≠ 255) (b : Bool) (hb : (ent k rs s q % 2 == 1) = b) : Machine.rule ⟨n, k, rs, g⟩ q s = some (ent k rs s q / 2, b) := by
  obtain ⟨hr, h2⟩ := ent_at hl hf hq hs
  have he : Machine.entry ⟨n, k, rs, g⟩ q s = ent k rs s q := by
    show rs.getD (q * (k + 2) + s) (2 * n) = _
    rw [List.getD_eq_getElem?_getD, hr]
    rfl
  have hlt : ent k rs s q < 2 * n := by
    rcases h2 with e | ⟨e, _⟩
    · exact absurd e h
    · exact e
  unfold Machine.rule
  rw [he, if_pos (by show ent k rs s q < 2 * n; exact hlt), hb]
theorem shown_lt {e : Nat} (h : e < n) : shownT n e = e := by unfold shownT; rw [if_pos h]
theorem shown_ge {e : Nat} (h : ¬ e < n) : shownT n e = 255 := by unfold shownT; rw [if_neg h]
theorem shown_small (e : Nat) : shownT n e < n ∨ shownT n e = 255 := by
  by_cases h : e < n
  · rw [shown_lt h]; exact .inl h
  · rw [shown_ge h]; exact .inr rfl
theorem shown_none {e : Nat} (hn : n ≤ 5) : shownT n e = 255 ↔ ¬ e < n := by
  by_cases h : e < n
  · rw [shown_lt h]
    exact ⟨fun z => by omega, fun z => absurd h z⟩
  · rw [shown_ge h]
    exact ⟨fun _ => h, fun _ => rfl⟩
theorem cross_shown (hn : n ≤ 5) (hl : rs.length = n * (k + 2)) (hf : rulesFit n k rs = true) (hs : s < k + 2) {tt : Nat → Nat} (ht : ∀ r, r < n → t.getD (1 + r) 255 = shownT n (tt r)) : ∀ (f q : Nat), q < n → crossP k rs t s f q = shownT n (endOf (goes (stB ⟨n, k, rs, g⟩ s tt) f q))
  | 0, q, _ => by
    show 255 = shownT n 501
    rw [shown_ge (by omega)]
  | f + 1, q, hq => by
    unfold crossP
    by_cases h : ent k rs s q = 255
    · rw [if_pos h, goes_end (stB_stop (rule_stop hn hl hf hq hs h))]
      show 255 = shownT n 500
      rw [shown_ge (by omega)]
    · rw [if_neg h]
      have hlt : ent k rs s q < 2 * n := by
        rcases (ent_at hl hf hq hs).2 with e | ⟨e, _⟩
        · exact absurd e h
        · exact e
      by_cases h2 : ent k rs s q % 2 = 1
      · rw [if_pos h2, goes_end (stB_out (rule_on hl hf hq hs h true (by rw [beq_iff_eq]; exact h2)))]
        show _ = shownT n (ent k rs s q / 2)
        rw [shown_lt (by omega)]
      · have z := rule_on (g := g) hl hf hq hs h false (by rw [beq_eq_false_iff_ne]; exact h2)
        rw [if_neg h2, ht _ (by omega)]
        by_cases h3 : tt (ent k rs s q / 2) < n
        · rw [if_neg (by rw [shown_none hn]; exact fun y => y h3), shown_lt h3, goes_on (stB_on z h3), cross_shown hn hl hf hs ht f _ h3]
          cases goes (stB ⟨n, k, rs, g⟩ s tt) f (tt (ent k rs s q / 2)) <;> rfl
        · rw [if_pos ((shown_none hn).mpr h3), goes_end (stB_end z h3)]
          show 255 = shownT n (tt (ent k rs s q / 2))
          rw [shown_ge h3]
/-- a word's table as it is told -/
def shT (m : Machine) (u : Word) : List Nat := (tableOf m u).map (shownT m.n)
theorem shT_ok (m : Machine) (u : Word) : TabOk m.n (shT m u) := by
  constructor
  · unfold shT
    rw [tableOf_eq, List.length_map, List.length_cons, List.length_map, List.length_range]
  · intro x hx
    obtain ⟨e, _, rfl⟩ := List.mem_map.mp hx
    exact shown_small e
theorem shT_first (m : Machine) (u : Word) : (shT m u).getD 0 255 = shownT m.n (firstT (tableOf m u)) := rfl
theorem shT_row {m : Machine} {u : Word} {r : Nat} (hr : r < m.n) : (shT m u).getD (1 + r) 255 = shownT m.n (rowT (tableOf m u) r) := by
  unfold shT
  rw [Nat.add_comm, rowT_tab hr, tableOf_eq, List.getD_eq_getElem?_getD, List.map_cons, List.getElem?_cons_succ, List.map_map, List.getElem?_map, List.getElem?_range hr]
  rfl
theorem longer_is (h0 : 0 < n) (hn : n ≤ 5) (hl : rs.length = n * (k + 2)) (hf : rulesFit n k rs = true) (hs : s < k + 2) (u : Word) : longerP n k rs (shT ⟨n, k, rs, g⟩ u) s = shT ⟨n, k, rs, g⟩ (u ++ [s]) := by
  have hc : ∀ q, q < n → crossP k rs (shT ⟨n, k, rs, g⟩ u) s n q = shownT n (crB ⟨n, k, rs, g⟩ s (rowT (tableOf ⟨n, k, rs, g⟩ u)) q) := fun q hq =>
    cross_shown (g := g) hn hl hf hs (fun r hr => shT_row (m := ⟨n, k, rs, g⟩) hr) n q hq
  have hrow : rowP n k rs (shT ⟨n, k, rs, g⟩ u) s = ((List.range n).map fun q => crB ⟨n, k, rs, g⟩ s (rowT (tableOf ⟨n, k, rs, g⟩ u)) q).map (shownT n) := by
    unfold rowP
    rw [List.map_map]
    refine List.map_congr_left fun q hq => ?_
    exact hc q (List.mem_range.mp hq)
  unfold longerP
  rw [hrow, shT_first]
  show _ = (tableOf ⟨n, k, rs, g⟩ (u ++ [s])).map (shownT n)
  rw [table_next (by show n ≤ 500; omega) h0]
  unfold nextT
  rw [List.map_cons]
  congr 1
  show (if shownT n (firstT (tableOf ⟨n, k, rs, g⟩ u)) = 255 then _ else _) = shownT n (if firstT (tableOf ⟨n, k, rs, g⟩ u) < n then _ else _)
  by_cases h : firstT (tableOf ⟨n, k, rs, g⟩ u) < n
  · rw [if_neg (by rw [shown_none hn]; exact fun y => y h), if_pos h]
    show List.getD _ (shownT n _) 255 = _
    rw [shown_lt h, List.getD_eq_getElem?_getD, List.getElem?_map, List.getElem?_map, List.getElem?_range h]
    rfl
  · rw [if_pos ((shown_none hn).mpr h), if_neg h, shown_ge h]
theorem nothing_ok (h0 : 0 < n) : TabOk n (nothingP n) := by
  constructor
  · show (List.replicate n 255).length + 1 = _
    rw [List.length_replicate]
  · intro x hx
    rcases List.mem_cons.mp hx with e | e
    · exact .inl (by omega)
    · exact .inr (List.mem_replicate.mp e).2
theorem empty_is (h0 : 0 < n) (hn : n ≤ 5) (hl : rs.length = n * (k + 2)) (hf : rulesFit n k rs = true) : emptyP n k rs = shT ⟨n, k, rs, g⟩ [] := by
  obtain ⟨f, ef⟩ : ∃ f, n = f + 1 := ⟨n - 1, by omega⟩
  have hc : ∀ q, q < n → crossP k rs (nothingP n) k n q = shownT n (cr ⟨n, k, rs, g⟩ [] q 0) := by
    intro q hq
    have p : InT ⟨n, k, rs, g⟩ [] (q, 0) := ⟨hq, by dsimp only; exact Nat.zero_lt_succ _⟩
    obtain ⟨_, h2⟩ := ent_at hl hf hq (show k < k + 2 by omega)
    have e : crossP k rs (nothingP n) k n q = if ent k rs k q = 255 then 255 else ent k rs k q / 2 := by
      rw [ef]
      unfold crossP
      by_cases h : ent k rs k q = 255
      · rw [if_pos h, if_pos h]
      · rw [if_neg h, if_neg h]
        rcases h2 with z | ⟨_, z⟩
        · exact absurd z h
        · rw [if_pos (z rfl)]
    rw [e]
    by_cases h : ent k rs k q = 255
    · rw [if_pos h, cr_of p (.here (stT_stop (rule_stop hn hl hf hq (by show k < k + 2; omega) h))), shown_ge (by omega)]
    · rcases h2 with z | ⟨z0, z⟩
      · exact absurd z h
      · rw [if_neg h, cr_of p (.here (stT_out (rule_on hl hf hq (by show k < k + 2; omega) h true (by rw [beq_iff_eq]; exact z rfl)) rfl)), shown_lt (by omega)]
  have hrow : rowP n k rs (nothingP n) k = ((List.range n).map fun q => cr ⟨n, k, rs, g⟩ [] q 0).map (shownT n) := by
    unfold rowP
    rw [List.map_map]
    refine List.map_congr_left fun q hq => ?_
    exact hc q (List.mem_range.mp hq)
  unfold emptyP longerP
  rw [hrow]
  show _ = (tableOf ⟨n, k, rs, g⟩ []).map (shownT n)
  rw [tableOf_eq, List.map_cons]
  congr 1
  show (List.map (shownT n) ((List.range n).map fun q => cr ⟨n, k, rs, g⟩ [] q 0)).getD 0 255 = _
  rw [List.getD_eq_getElem?_getD, List.getElem?_map, List.getElem?_map, List.getElem?_range h0]
  rfl
end
/-! ### the answers -/
end Mt

/-! ### numbers by first appearance -/
namespace Mt
section
variable {β γ : Type} [DecidableEq β] [DecidableEq γ]
/-- each once, in the order in which they come -/
def dist (l : List β) : List β := l.foldl (fun acc x => if x ∈ acc then acc else acc ++ [x]) []
theorem dist_snoc (l : List β) (x : β) : dist (l ++ [x]) = if x ∈ dist l then dist l else dist l ++ [x] := by
  unfold dist
  rw [List.foldl_append]
  rfl
theorem back_ind {P : List β → Prop} (h0 : P []) (hs : ∀ l x, P l → P (l ++ [x])) (l : List β) : P l := by
  have z : ∀ (n : Nat) (l : List β), l.length = n → P l := by
    intro n
    induction n with
    | zero => intro l h; rw [List.length_eq_zero_iff.mp h]; exact h0
    | succ n ih =>
      intro l h
      have hne : l ≠ [] := fun e => by rw [e] at h; cases h
      rw [← List.dropLast_concat_getLast hne]
      exact hs _ _ (ih _ (by rw [List.length_dropLast, h]; rfl))
  exact z _ l rfl
theorem dist_mem (l : List β) (y : β) : y ∈ dist l ↔ y ∈ l := by
  induction l using back_ind with
  | h0 => exact Iff.rfl
  | hs l x ih =>
    rw [dist_snoc]
    by_cases h : x ∈ dist l
    · rw [if_pos h, ih, List.mem_append, List.mem_singleton]
      exact ⟨.inl, fun z => z.elim id fun e => ih.mp (by rw [e]; exact h)⟩
    · rw [if_neg h, List.mem_append, List.mem_append, ih]
theorem dist_nodup (l : List β) : (dist l).Nodup := by
  induction l using back_ind with
  | h0 => exact List.nodup_nil
  | hs l x ih =>
    rw [dist_snoc]
    by_cases h : x ∈ dist l
    · rw [if_pos h]; exact ih
    · rw [if_neg h, List.nodup_append]
      refine ⟨ih, by simp, fun a ha b hb e => ?_⟩
      rw [List.mem_singleton] at hb
      rw [e, hb] at ha
      exact h ha
theorem dist_pre (l m : List β) : ∃ r, dist (l ++ m) = dist l ++ r := by
  induction m using back_ind with
  | h0 => exact ⟨[], by rw [List.append_nil, List.append_nil]⟩
  | hs m x ih =>
    obtain ⟨r, hr⟩ := ih
    rw [← List.append_assoc, dist_snoc, hr]
    by_cases h : x ∈ dist l ++ r
    · rw [if_pos h]; exact ⟨r, rfl⟩
    · rw [if_neg h, List.append_assoc]; exact ⟨r ++ [x], rfl⟩
theorem dist_len (l : List β) : (dist l).length ≤ l.length := by
  induction l using back_ind with
  | h0 => exact Nat.le_refl _
  | hs l x ih =>
    rw [dist_snoc, List.length_append]
    by_cases h : x ∈ dist l
    · rw [if_pos h]; exact Nat.le_succ_of_le ih
    · rw [if_neg h, List.length_append]; exact Nat.add_le_add_right ih _
theorem dist_full (l : List β) (h : (dist l).length = l.length) : l.Nodup := by
  induction l using back_ind with
  | h0 => exact List.nodup_nil
  | hs l x ih =>
    rw [dist_snoc, List.length_append] at h
    have z := dist_len l
    by_cases hx : x ∈ dist l
    · rw [if_pos hx] at h
      have e : [x].length = 1 := rfl
      omega
    · rw [if_neg hx, List.length_append] at h
      rw [List.nodup_append]
      refine ⟨ih (by omega), by simp, fun a ha b hb e => ?_⟩
      rw [List.mem_singleton] at hb
      rw [e, hb] at ha
      exact hx ((dist_mem l x).mpr ha)
/-- of lists without doubles the greater is the longer -/
theorem sub_len : ∀ {l m : List β}, l.Nodup → (∀ x ∈ l, x ∈ m) → l.length ≤ m.length
  | [], _, _, _ => Nat.zero_le _
  | a :: l, m, hn, hs => by
    have ha := hs a (List.mem_cons_self ..)
    obtain ⟨hna, hnl⟩ := List.nodup_cons.mp hn
    have z : l.length ≤ (m.erase a).length := sub_len hnl fun x hx => by
      have hne : x ≠ a := fun e => hna (e ▸ hx)
      exact (List.mem_erase_of_ne hne).mpr (hs x (List.mem_cons_of_mem _ hx))
    have e := List.length_erase_of_mem ha
    have p : 0 < m.length := List.length_pos_of_mem ha
    rw [List.length_cons]
    omega
theorem same_len {l m : List β} (hl : l.Nodup) (hm : m.Nodup) (h : ∀ x, x ∈ l ↔ x ∈ m) : l.length = m.length :=
  Nat.le_antisymm (sub_len hl fun x hx => (h x).mp hx) (sub_len hm fun x hx => (h x).mpr hx)
/-- what is told of more is more; as many: then one for one -/
theorem dist_map (h : β → γ) (l : List β) : (dist (l.map h)).length ≤ (dist l).length ∧ ((dist (l.map h)).length = (dist l).length → ∀ x ∈ l, ∀ y ∈ l, h x = h y → x = y) := by
  have e : (dist (l.map h)).length = (dist ((dist l).map h)).length := same_len (dist_nodup _) (dist_nodup _) fun y => by
    rw [dist_mem, dist_mem, List.mem_map, List.mem_map]
    constructor
    · rintro ⟨x, hx, e⟩
      exact ⟨x, (dist_mem l x).mpr hx, e⟩
    · rintro ⟨x, hx, e⟩
      exact ⟨x, (dist_mem l x).mp hx, e⟩
  have z := dist_len ((dist l).map h)
  rw [List.length_map] at z
  refine ⟨by omega, fun q x hx y hy exy => ?_⟩
  have nd := dist_full ((dist l).map h) (by rw [List.length_map]; omega)
  obtain ⟨i, hi, ei⟩ := List.getElem_of_mem ((dist_mem l x).mpr hx)
  obtain ⟨j, hj, ej⟩ := List.getElem_of_mem ((dist_mem l y).mpr hy)
  have hi' : i < ((dist l).map h).length := by rw [List.length_map]; exact hi
  have hj' : j < ((dist l).map h).length := by rw [List.length_map]; exact hj
  have w : ((dist l).map h)[i] = ((dist l).map h)[j] := by rw [List.getElem_map, List.getElem_map, ei, ej, exy]
  have eij : i = j := (List.getElem_inj nd).mp w
  subst eij
  rw [← ei, ← ej]
/-- a thing's number -/
def numOf (l : List β) (x : β) : Nat := (dist l).idxOf x
theorem numOf_lt {l : List β} {x : β} (h : x ∈ l) : numOf l x < (dist l).length := List.idxOf_lt_length_iff.mpr ((dist_mem l x).mpr h)
theorem numOf_at {l : List β} {x : β} (h : x ∈ l) : (dist l)[numOf l x]'(numOf_lt h) = x := List.getElem_idxOf _
theorem numOf_inj {l : List β} {x y : β} (hx : x ∈ l) (hy : y ∈ l) : numOf l x = numOf l y ↔ x = y := by
  constructor
  · intro e
    have a := numOf_at hx
    have b := numOf_at hy
    rw [← a, ← b]
    congr 1
  · intro e; rw [e]
theorem numOf_all {l : List β} {i : Nat} (h : i < (dist l).length) : ∃ x ∈ l, numOf l x = i := by
  refine ⟨(dist l)[i], (dist_mem l _).mp (List.getElem_mem h), ?_⟩
  have hm : (dist l)[i] ∈ l := (dist_mem l _).mp (List.getElem_mem h)
  have z := numOf_at hm
  exact (List.getElem_inj (dist_nodup l)).mp z
/-- the number stays when more comes -/
theorem idx_pre {l r : List β} {x : β} (h : x ∈ l) : (l ++ r).idxOf x = l.idxOf x := by
  rw [List.idxOf_append, if_pos h]
theorem numOf_pre {l m : List β} {x : β} (h : x ∈ l) : numOf (l ++ m) x = numOf l x := by
  unfold numOf
  obtain ⟨r, hr⟩ := dist_pre l m
  rw [hr]
  exact idx_pre ((dist_mem l x).mpr h)
theorem numOf_new {l : List β} {x : β} (h : x ∉ l) : numOf (l ++ [x]) x = (dist l).length := by
  unfold numOf
  have h' : x ∉ dist l := fun z => h ((dist_mem l x).mp z)
  rw [dist_snoc, if_neg h', List.idxOf_append, if_neg h']
  simp
end
end Mt

/-! ### states: tables parted until they stay -/
namespace Mt
open Rd11
section
variable {n k g : Nat} {rs : List Nat}
def takenP (n k g : Nat) (rs t : List Nat) : Bool := !decide ((longerP n k rs t (k + 1)).getD 0 255 = 255) && g.testBit ((longerP n k rs t (k + 1)).getD 0 255)
/-- what is asked of a machine's numbers -/
structure MOk (n k : Nat) (rs : List Nat) : Prop where
  h0 : 0 < n
  hn : n ≤ 5
  hl : rs.length = n * (k + 2)
  hf : rulesFit n k rs = true
theorem takes_is (M : MOk n k rs) (u : Word) : takes ⟨n, k, rs, g⟩ u = takenP n k g rs (shT ⟨n, k, rs, g⟩ u) := by
  have hm : (⟨n, k, rs, g⟩ : Machine).n ≤ 500 := by show n ≤ 500; have := M.hn; omega
  unfold takenP
  rw [takes_tab hm M.h0, longer_is M.h0 M.hn M.hl M.hf (by omega), shT_first, firstT_tab]
  have e : fateT ⟨n, k, rs, g⟩ (tableOf ⟨n, k, rs, g⟩ u) = cr ⟨n, k, rs, g⟩ (u ++ [k + 1]) 0 0 := by
    rw [← fate_tab hm M.h0, fate_cr M.h0]
    rfl
  unfold takesT
  rw [e]
  show (decide (cr ⟨n, k, rs, g⟩ (u ++ [k + 1]) 0 0 < n) && g.testBit (cr ⟨n, k, rs, g⟩ (u ++ [k + 1]) 0 0)) = (!decide (shownT n (cr ⟨n, k, rs, g⟩ (u ++ [k + 1]) 0 0) = 255) && g.testBit (shownT n (cr ⟨n, k, rs, g⟩ (u ++ [k + 1]) 0 0)))
  by_cases h : cr ⟨n, k, rs, g⟩ (u ++ [k + 1]) 0 0 < n
  · rw [shown_lt h, decide_eq_true h, decide_eq_false (by have := M.hn; omega)]
    rfl
  · rw [shown_ge h, decide_eq_false h, decide_eq_true rfl]
    rfl
theorem shT_app (M : MOk n k rs) (u : Word) : ∀ w : Word, letters k w = true → ∀ u, shT ⟨n, k, rs, g⟩ (u ++ w) = w.foldl (longerP n k rs) (shT ⟨n, k, rs, g⟩ u)
  | [], _, u => by rw [List.append_nil]; rfl
  | a :: w, h, u => by
    obtain ⟨ha, hw⟩ := letters_cons.mp h
    rw [List.foldl_cons, longer_is M.h0 M.hn M.hl M.hf (by omega), ← shT_app M u w hw (u ++ [a]), List.append_assoc]
    rfl
/-- the tables of all words -/
structure Reach (n k : Nat) (rs : List Nat) (g : Nat) (D : List (List Nat)) : Prop where
  of : ∀ t ∈ D, ∃ u : Word, letters k u = true ∧ t = shT ⟨n, k, rs, g⟩ u
  start : emptyP n k rs ∈ D
  go : ∀ t ∈ D, ∀ a, a < k → longerP n k rs t a ∈ D
theorem Reach.walk {D : List (List Nat)} (R : Reach n k rs g D) : ∀ (w : Word) (t : List Nat), letters k w = true → t ∈ D → w.foldl (longerP n k rs) t ∈ D
  | [], t, _, h => h
  | a :: w, t, hw, h => by
    obtain ⟨ha, hw'⟩ := letters_cons.mp hw
    exact R.walk w _ hw' (R.go t h a ha)
theorem Reach.all {D : List (List Nat)} (M : MOk n k rs) (R : Reach n k rs g D) (u : Word) (hu : letters k u = true) : shT ⟨n, k, rs, g⟩ u ∈ D := by
  have z := shT_app (g := g) M [] u hu []
  rw [List.nil_append, ← empty_is M.h0 M.hn M.hl M.hf] at z
  rw [z]
  exact R.walk u _ hu R.start
/-- two tables whose words are alike -/
def Alk (n k g : Nat) (rs t t' : List Nat) : Prop := ∀ w : Word, letters k w = true → takenP n k g rs (w.foldl (longerP n k rs) t) = takenP n k g rs (w.foldl (longerP n k rs) t')
theorem alk_is (M : MOk n k rs) (u v : Word) : Alk n k g rs (shT ⟨n, k, rs, g⟩ u) (shT ⟨n, k, rs, g⟩ v) ↔ Alike ⟨n, k, rs, g⟩ u v := by
  constructor
  · intro h w hw
    rw [takes_is M, takes_is M, shT_app M u w hw u, shT_app M u w hw v]
    exact h w hw
  · intro h w hw
    have z := h w hw
    rw [takes_is M, takes_is M, shT_app M u w hw u, shT_app M u w hw v] at z
    exact z
theorem alk_go {t t' : List Nat} (h : Alk n k g rs t t') {a : Nat} (ha : a < k) : Alk n k g rs (longerP n k rs t a) (longerP n k rs t' a) := fun w hw => h (a :: w) (letters_cons.mpr ⟨ha, hw⟩)
/-- numbers of kinds: none parts what is alike, none joins what is taken and what is not -/
structure Col (n k g : Nat) (rs : List Nat) (D : List (List Nat)) (c : List Nat → Nat) (N : Nat) : Prop where
  lt : ∀ t ∈ D, c t < N
  sur : ∀ i, i < N → ∃ t ∈ D, c t = i
  tk : ∀ t ∈ D, ∀ t' ∈ D, c t = c t' → takenP n k g rs t = takenP n k g rs t'
  al : ∀ t ∈ D, ∀ t' ∈ D, Alk n k g rs t t' → c t = c t'
def kOf {β : Type} [DecidableEq β] (D : List (List Nat)) (f : List Nat → β) (t : List Nat) : Nat := numOf (D.map f) (f t)
theorem kOf_iff {β : Type} [DecidableEq β] {D : List (List Nat)} {f : List Nat → β} {t t' : List Nat} (h : t ∈ D) (h' : t' ∈ D) : kOf D f t = kOf D f t' ↔ f t = f t' :=
  numOf_inj (List.mem_map.mpr ⟨t, h, rfl⟩) (List.mem_map.mpr ⟨t', h', rfl⟩)
theorem col_of {β : Type} [DecidableEq β] {D : List (List Nat)} {f : List Nat → β} (h1 : ∀ t ∈ D, ∀ t' ∈ D, f t = f t' → takenP n k g rs t = takenP n k g rs t') (h2 : ∀ t ∈ D, ∀ t' ∈ D, Alk n k g rs t t' → f t = f t') :
    Col n k g rs D (kOf D f) (dist (D.map f)).length where
  lt := fun t ht => numOf_lt (List.mem_map.mpr ⟨t, ht, rfl⟩)
  sur := fun i hi => by
    obtain ⟨x, hx, e⟩ := numOf_all hi
    obtain ⟨t, ht, rfl⟩ := List.mem_map.mp hx
    exact ⟨t, ht, e⟩
  tk := fun t ht t' ht' e => h1 t ht t' ht' ((kOf_iff ht ht').mp e)
  al := fun t ht t' ht' a => (kOf_iff ht ht').mpr (h2 t ht t' ht' a)
theorem col_start (D : List (List Nat)) : Col n k g rs D (kOf D (takenP n k g rs)) (dist (D.map (takenP n k g rs))).length :=
  col_of (fun _ _ _ _ e => e) fun _ _ _ _ a => a [] rfl
def fineF (n k : Nat) (rs : List Nat) (c : List Nat → Nat) (t : List Nat) : List Nat := c t :: (List.range k).map fun a => c (longerP n k rs t a)
theorem fine_iff {c : List Nat → Nat} {t t' : List Nat} : fineF n k rs c t = fineF n k rs c t' ↔ c t = c t' ∧ ∀ a, a < k → c (longerP n k rs t a) = c (longerP n k rs t' a) := by
  unfold fineF
  rw [List.cons.injEq, List.map_inj_left]
  constructor
  · rintro ⟨h1, h2⟩
    exact ⟨h1, fun a ha => h2 a (List.mem_range.mpr ha)⟩
  · rintro ⟨h1, h2⟩
    exact ⟨h1, fun a ha => h2 a (List.mem_range.mp ha)⟩
theorem col_fine {D : List (List Nat)} (R : Reach n k rs g D) {c : List Nat → Nat} {N : Nat} (C : Col n k g rs D c N) : Col n k g rs D (kOf D (fineF n k rs c)) (dist (D.map (fineF n k rs c))).length :=
  col_of (fun t ht t' ht' e => C.tk t ht t' ht' (fine_iff.mp e).1) fun t ht t' ht' a => fine_iff.mpr ⟨C.al t ht t' ht' a, fun b hb => C.al _ (R.go t ht b hb) _ (R.go t' ht' b hb) (alk_go a hb)⟩
theorem col_count {D : List (List Nat)} {c : List Nat → Nat} {N : Nat} (C : Col n k g rs D c N) : (dist (D.map c)).length = N := by
  have nd : (List.range N).Nodup := List.nodup_range
  rw [← List.length_range (n := N)]
  refine same_len (dist_nodup _) nd fun i => ?_
  rw [dist_mem, List.mem_map, List.mem_range]
  constructor
  · rintro ⟨t, ht, rfl⟩
    exact C.lt t ht
  · intro hi
    exact C.sur i hi
theorem fine_head {D : List (List Nat)} (c : List Nat → Nat) : (D.map (fineF n k rs c)).map (fun x => x.headD 0) = D.map c := by
  rw [List.map_map]
  rfl
theorem fine_more {D : List (List Nat)} {c : List Nat → Nat} {N : Nat} (C : Col n k g rs D c N) : N ≤ (dist (D.map (fineF n k rs c))).length := by
  have z := (dist_map (fun x : List Nat => x.headD 0) (D.map (fineF n k rs c))).1
  rw [fine_head, col_count C] at z
  exact z
/-- no more kinds than before: they stay -/
theorem fine_stays {D : List (List Nat)} {c : List Nat → Nat} {N : Nat} (C : Col n k g rs D c N) (h : (dist (D.map (fineF n k rs c))).length = N) {t t' : List Nat} (ht : t ∈ D) (ht' : t' ∈ D) (e : c t = c t') :
    ∀ a, a < k → c (longerP n k rs t a) = c (longerP n k rs t' a) := by
  have z := (dist_map (fun x : List Nat => x.headD 0) (D.map (fineF n k rs c))).2
  rw [fine_head, col_count C, h] at z
  have y := z rfl (fineF n k rs c t) (List.mem_map.mpr ⟨t, ht, rfl⟩) (fineF n k rs c t') (List.mem_map.mpr ⟨t', ht', rfl⟩) e
  exact (fine_iff.mp y).2
theorem picked {P : Nat → Word → Prop} : ∀ N : Nat, (∀ i, i < N → ∃ u, P i u) → ∃ l : List Word, l.length = N ∧ ∀ i u, l[i]? = some u → P i u
  | 0, _ => ⟨[], rfl, fun i u h => by simp at h⟩
  | N + 1, h => by
    obtain ⟨l, hl, hp⟩ := picked N fun i hi => h i (by omega)
    obtain ⟨u, hu⟩ := h N (by omega)
    refine ⟨l ++ [u], by rw [List.length_append, hl]; rfl, fun i v hv => ?_⟩
    by_cases hi : i < l.length
    · rw [List.getElem?_append_left hi] at hv
      exact hp i v hv
    · rw [List.getElem?_append_right (by omega)] at hv
      have z := (List.getElem?_eq_some_iff.mp hv).1
      have z' : i - l.length < 1 := z
      have e : i = N := by omega
      rw [e, hl, Nat.sub_self] at hv
      have e2 : u = v := Option.some.inj hv
      rw [e, ← e2]
      exact hu
theorem states_done (M : MOk n k rs) {D : List (List Nat)} (R : Reach n k rs g D) {c : List Nat → Nat} {N : Nat} (C : Col n k g rs D c N) (h : (dist (D.map (fineF n k rs c))).length = N) : statesOf ⟨n, k, rs, g⟩ = N := by
  have hm : (⟨n, k, rs, g⟩ : Machine).n ≤ 500 := by show n ≤ 500; have := M.hn; omega
  have alk : ∀ (w : Word) (t t' : List Nat), letters k w = true → t ∈ D → t' ∈ D → c t = c t' → takenP n k g rs (w.foldl (longerP n k rs) t) = takenP n k g rs (w.foldl (longerP n k rs) t') := by
    intro w
    induction w with
    | nil => intro t t' _ ht ht' e; exact C.tk t ht t' ht' e
    | cons a w ih =>
      intro t t' hw ht ht' e
      obtain ⟨ha, hw'⟩ := letters_cons.mp hw
      exact ih _ _ hw' (R.go t ht a ha) (R.go t' ht' a ha) (fine_stays C h ht ht' e a ha)
  refine states_one (states_is hm M.h0) ?_
  obtain ⟨l, hl, hp⟩ := picked (P := fun i u => letters k u = true ∧ c (shT ⟨n, k, rs, g⟩ u) = i) N fun i hi => by
    obtain ⟨t, ht, e⟩ := C.sur i hi
    obtain ⟨u, hu, rfl⟩ := R.of t ht
    exact ⟨u, hu, e⟩
  have at_ : ∀ u ∈ l, ∃ i, l[i]? = some u ∧ letters k u = true ∧ c (shT ⟨n, k, rs, g⟩ u) = i := fun u hu => by
    obtain ⟨i, hi⟩ := List.getElem?_of_mem hu
    exact ⟨i, hi, hp i u hi⟩
  refine ⟨l, hl, fun u hu => (at_ u hu).elim fun i h => h.2.1, ?_, fun u hu => ?_⟩
  · rw [List.pairwise_iff_getElem]
    intro i j hi hj hij a
    have h1 := hp i _ (List.getElem?_eq_getElem hi)
    have h2 := hp j _ (List.getElem?_eq_getElem hj)
    have z := C.al _ (R.all M _ h1.1) _ (R.all M _ h2.1) ((alk_is M _ _).mpr a)
    omega
  · have ht := R.all M u hu
    have hi := C.lt _ ht
    have hi' : c (shT ⟨n, k, rs, g⟩ u) < l.length := by rw [hl]; exact hi
    have hv := hp _ _ (List.getElem?_eq_getElem hi')
    refine ⟨l[c (shT ⟨n, k, rs, g⟩ u)], List.getElem_mem hi', (alk_is M _ _).mp fun w hw => ?_⟩
    exact alk w _ _ hw ht (R.all M _ hv.1) hv.2.symm
theorem top_col {D : List (List Nat)} {c : List Nat → Nat} {N M : Nat} (C : Col n k g rs D c N) (hM : M ∈ D.map c) (hall : ∀ y ∈ D.map c, y ≤ M) : M + 1 = N := by
  obtain ⟨t, ht, rfl⟩ := List.mem_map.mp hM
  have h1 := C.lt t ht
  obtain ⟨t', ht', e⟩ := C.sur (N - 1) (by omega)
  have h2 := hall _ (List.mem_map.mpr ⟨t', ht', rfl⟩)
  omega
theorem fine_len {D : List (List Nat)} (c : List Nat → Nat) : (dist (D.map (fineF n k rs c))).length ≤ D.length := by
  have z := dist_len (D.map (fineF n k rs c))
  rw [List.length_map] at z
  exact z
/-! ### how many tables there can be -/
def allTabs (n : Nat) : Nat → List (List Nat)
  | 0 => [[]]
  | j + 1 => (255 :: List.range n).flatMap fun x => (allTabs n j).map fun l => x :: l
theorem flat_len {α β : Type} (f : α → List β) (c : Nat) : ∀ l : List α, (∀ x ∈ l, (f x).length = c) → (l.flatMap f).length = l.length * c
  | [], _ => by simp
  | a :: l, h => by
    rw [List.flatMap_cons, List.length_append, h a (List.mem_cons_self ..), flat_len f c l fun x hx => h x (List.mem_cons_of_mem _ hx), List.length_cons, Nat.succ_mul, Nat.add_comm]
theorem allTabs_len (n : Nat) : ∀ j, (allTabs n j).length = (n + 1) ^ j
  | 0 => rfl
  | j + 1 => by
    unfold allTabs
    rw [flat_len _ ((n + 1) ^ j) _ fun x _ => by rw [List.length_map, allTabs_len n j], List.length_cons, List.length_range, Nat.pow_succ, Nat.mul_comm]
theorem allTabs_mem {n : Nat} : ∀ (j : Nat) (t : List Nat), t.length = j → (∀ x ∈ t, x < n ∨ x = 255) → t ∈ allTabs n j
  | 0, t, h, _ => by rw [List.length_eq_zero_iff.mp h]; exact List.mem_singleton.mpr rfl
  | j + 1, t, h, hs => by
    cases t with
    | nil => cases h
    | cons a t =>
      unfold allTabs
      rw [List.mem_flatMap]
      refine ⟨a, ?_, List.mem_map.mpr ⟨t, allTabs_mem j t (Nat.succ.inj h) fun x hx => hs x (List.mem_cons_of_mem _ hx), rfl⟩⟩
      rcases hs a (List.mem_cons_self ..) with z | z
      · exact List.mem_cons_of_mem _ (List.mem_range.mpr z)
      · rw [z]; exact List.mem_cons_self ..
theorem tabs_few {D : List (List Nat)} (hn : D.Nodup) (h : ∀ t ∈ D, TabOk n t) : D.length ≤ (n + 1) ^ (n + 1) := by
  rw [← allTabs_len n (n + 1)]
  exact sub_len hn fun t ht => allTabs_mem _ t (h t ht).len (h t ht).small
end
/-! ### the answers -/
open Rd11Neutral
end Mt

/-! ### tables in the order of their first words -/
namespace Mt
open Rd11
section
variable {k : Nat} {t : Word → List Nat}
/-- what is told and what waits at the head of a round -/
inductive Rnd (k : Nat) (t : Word → List Nat) : List Kind → List Word → Prop
  | start : Rnd k t [] [[]]
  | go {d : Nat} {pre now : List Kind} (L : Lay k t d pre now) : Rnd k t (pre ++ now) (heirs k now)
theorem lay0 : Lay k t 0 [] [([], t [])] := by
  refine ⟨⟨fun y hy => ?_, List.pairwise_singleton _ _, List.pairwise_singleton _ _⟩, fun y hy => absurd hy (by simp), fun y hy => ?_, fun w hw hl => ?_⟩
  · rw [List.mem_singleton.mp hy]
    exact ⟨rfl, rfl⟩
  · rw [List.mem_singleton.mp hy]
    rfl
  · have e : w = [] := List.eq_nil_of_length_eq_zero (by omega)
    subst e
    exact ⟨_, List.mem_singleton.mpr rfl, rfl, .inl rfl⟩
theorem Rnd.next (cong : ∀ u v a, a < k → t u = t v → t (u ++ [a]) = t (v ++ [a])) {l : List Kind} {cs : List Word} (R : Rnd k t l cs) :
    ∃ N, cs.foldl (addK t) (l, []) = (l ++ N, N) ∧ Rnd k t (l ++ N) (heirs k N) := by
  cases R with
  | start => exact ⟨[([], t [])], rfl, .go (pre := []) lay0⟩
  | go L =>
    obtain ⟨M, h1, h2⟩ := L.next cong
    exact ⟨M, h1, .go h2⟩
theorem Rnd.lets {l : List Kind} {cs : List Word} (R : Rnd k t l cs) : ∀ w ∈ cs, letters k w = true := by
  cases R with
  | start => intro w hw; rw [List.mem_singleton.mp hw]; rfl
  | go L =>
    intro w hw
    obtain ⟨y, hy, a, ha, rfl⟩ := heirs_mem.mp hw
    exact letters_snoc.mpr ⟨(L.ks.tab y (List.mem_append.mpr (.inr hy))).2, ha⟩
theorem Rnd.done (hk : 0 < k) (cong : ∀ u v a, a < k → t u = t v → t (u ++ [a]) = t (v ++ [a])) {l : List Kind} {cs : List Word} (R : Rnd k t l cs) (hc : cs = []) : AllK k t l := by
  cases R with
  | start => cases hc
  | @go d pre now L =>
    have e : now = [] := by
      cases now with
      | nil => rfl
      | cons y r =>
        have z : y.1 ++ [0] ∈ heirs k (y :: r) := heirs_mem.mpr ⟨y, List.mem_cons_self .., 0, hk, rfl⟩
        rw [hc] at z
        exact absurd z List.not_mem_nil
    subst e
    rw [List.append_nil]
    cases d with
    | zero =>
      obtain ⟨y, hy, _⟩ := L.all [] rfl (Nat.zero_le _)
      rw [List.append_nil] at hy
      exact absurd (L.pr y hy) (Nat.not_lt_zero _)
    | succ d => exact L.done cong
/-- in the midst of a round -/
structure Kw (k : Nat) (t : Word → List Nat) (l : List Kind) (s : List Kind × List Kind) : Prop where
  tab : ∀ y ∈ s.1, y.2 = t y.1 ∧ letters k y.1 = true
  nd : (s.1.map (·.2)).Nodup
  app : s.1 = l ++ s.2
theorem Rnd.kw {l : List Kind} {cs : List Word} (R : Rnd k t l cs) : Kw k t l (l, []) := by
  have z : Ks k t l := by
    cases R with
    | start => exact ⟨fun _ h => absurd h List.not_mem_nil, .nil, .nil⟩
    | go L => exact L.ks
  exact ⟨z.tab, by unfold List.Nodup; rw [List.pairwise_map]; exact z.dist, (List.append_nil _).symm⟩
theorem addK_old {s : List Kind × List Kind} {w : Word} (h : t w ∈ s.1.map (·.2)) : addK t s w = s := by
  obtain ⟨y, hy, e⟩ := List.mem_map.mp h
  unfold addK
  rw [if_pos (List.any_eq_true.mpr ⟨y, hy, by rw [beq_iff_eq]; exact e⟩)]
theorem addK_new {s : List Kind × List Kind} {w : Word} (h : t w ∉ s.1.map (·.2)) : addK t s w = (s.1 ++ [(w, t w)], s.2 ++ [(w, t w)]) := by
  unfold addK
  rw [if_neg]
  intro z
  obtain ⟨y, hy, e⟩ := List.any_eq_true.mp z
  rw [beq_iff_eq] at e
  exact h (List.mem_map.mpr ⟨y, hy, e⟩)
theorem Kw.more {l : List Kind} {s : List Kind × List Kind} (K : Kw k t l s) {w : Word} (hw : letters k w = true) (h : t w ∉ s.1.map (·.2)) : Kw k t l (s.1 ++ [(w, t w)], s.2 ++ [(w, t w)]) := by
  refine ⟨fun y hy => ?_, ?_, ?_⟩
  · rcases List.mem_append.mp hy with hy | hy
    · exact K.tab y hy
    · rw [List.mem_singleton.mp hy]; exact ⟨rfl, hw⟩
  · show ((s.1 ++ [(w, t w)]).map (·.2)).Nodup
    rw [List.map_append, List.nodup_append]
    refine ⟨K.nd, by simp, fun a ha b hb e => ?_⟩
    rw [List.map_cons, List.map_nil, List.mem_singleton] at hb
    rw [e, hb] at ha
    exact h ha
  · show s.1 ++ [(w, t w)] = l ++ (s.2 ++ [(w, t w)])
    rw [K.app, List.append_assoc]
theorem heirs_snoc (N : List Kind) (y : Kind) : heirs k (N ++ [y]) = heirs k N ++ (List.range k).map fun a => y.1 ++ [a] := by
  unfold heirs
  rw [List.flatMap_append]
  simp
theorem heirs_len (N : List Kind) : (heirs k N).length = N.length * k := by
  unfold heirs
  exact flat_len _ k N fun x _ => by rw [List.length_map, List.length_range]
end
section
variable {n k g : Nat} {rs : List Nat}
theorem shT_cong (M : MOk n k rs) (u v : Word) (a : Nat) (ha : a < k) (h : shT ⟨n, k, rs, g⟩ u = shT ⟨n, k, rs, g⟩ v) : shT ⟨n, k, rs, g⟩ (u ++ [a]) = shT ⟨n, k, rs, g⟩ (v ++ [a]) := by
  rw [← longer_is M.h0 M.hn M.hl M.hf (by omega), ← longer_is M.h0 M.hn M.hl M.hf (by omega), h]
theorem AllK.reach (M : MOk n k rs) {l : List Kind} (A : AllK k (shT ⟨n, k, rs, g⟩) l) : Reach n k rs g (l.map (·.2)) := by
  have all : ∀ u, letters k u = true → shT ⟨n, k, rs, g⟩ u ∈ l.map (·.2) := fun u hu => by
    obtain ⟨y, hy, e, _⟩ := A.all u hu
    exact List.mem_map.mpr ⟨y, hy, e⟩
  refine ⟨fun x hx => ?_, ?_, fun x hx a ha => ?_⟩
  · obtain ⟨y, hy, rfl⟩ := List.mem_map.mp hx
    exact ⟨y.1, (A.ks.tab y hy).2, (A.ks.tab y hy).1⟩
  · rw [empty_is (g := g) M.h0 M.hn M.hl M.hf]
    exact all [] rfl
  · obtain ⟨y, hy, rfl⟩ := List.mem_map.mp hx
    rw [(A.ks.tab y hy).1, longer_is M.h0 M.hn M.hl M.hf (by omega)]
    exact all _ (letters_snoc.mpr ⟨(A.ks.tab y hy).2, ha⟩)
theorem AllK.nd {t : Word → List Nat} {l : List Kind} (A : AllK k t l) : (l.map (·.2)).Nodup := by
  unfold List.Nodup
  rw [List.pairwise_map]
  exact A.ks.dist
theorem AllK.least {t : Word → List Nat} {l : List Kind} (A : AllK k t l) {y : Kind} (hy : y ∈ l) {u : Word} (hu : letters k u = true) (e : t u = y.2) : y.1 = u ∨ before y.1 u = true := by
  obtain ⟨z, hz, ez, hb⟩ := A.all u hu
  have h : z = y := by
    obtain ⟨i, hi, ei⟩ := List.getElem_of_mem hz
    obtain ⟨j, hj, ej⟩ := List.getElem_of_mem hy
    have d := List.pairwise_iff_getElem.mp A.ks.dist
    rcases Nat.lt_trichotomy i j with c | c | c
    · exact absurd (by rw [ei, ej, ez, e]) (d i j hi hj c)
    · subst c
      rw [← ei, ← ej]
    · exact absurd (by rw [ei, ej, ez, e]) (d j i hj hi c)
  rw [← h]
  exact hb
theorem AllK.later {t : Word → List Nat} {l : List Kind} (A : AllK k t l) {i j : Nat} {x y : Kind} (hi : l[i]? = some x) (hj : l[j]? = some y) (h : i < j) : before x.1 y.1 = true := by
  obtain ⟨hi', rfl⟩ := List.getElem?_eq_some_iff.mp hi
  obtain ⟨hj', rfl⟩ := List.getElem?_eq_some_iff.mp hj
  exact List.pairwise_iff_getElem.mp A.ks.sort i j hi' hj' h
theorem AllK.earlier {t : Word → List Nat} {l : List Kind} (A : AllK k t l) {i j : Nat} {x y : Kind} (hi : l[i]? = some x) (hj : l[j]? = some y) (h : before x.1 y.1 = true) : i < j := by
  rcases Nat.lt_trichotomy i j with c | c | c
  · exact c
  · subst c
    rw [hi] at hj
    cases hj
    exact absurd h before_irr
  · exact absurd (before_trans h (A.later hj hi c)) before_irr
end
end Mt

/-! ### kinds numbered by first words; machines that take the same words -/
namespace Mt
open Rd11
/-- numbers in the order in which they come -/
def Fst (D : List (List Nat)) (c : List Nat → Nat) : Prop := ∀ (j : Nat) (t : List Nat), D[j]? = some t → ∀ i, i < c t → ∃ (j' : Nat) (t' : List Nat), j' < j ∧ D[j']? = some t' ∧ c t' = i
theorem kOf_fst {β : Type} [DecidableEq β] (D : List (List Nat)) (f : List Nat → β) : Fst D (kOf D f) := by
  intro j t hj i hi
  obtain ⟨hl, ej⟩ := List.getElem?_eq_some_iff.mp hj
  have sp : D = D.take j ++ t :: D.drop (j + 1) := by
    rw [← ej, List.getElem_cons_drop, List.take_append_drop]
  have e1 : D.map f = (D.take j).map f ++ [f t] ++ (D.drop (j + 1)).map f := by
    conv => lhs; rw [sp]
    rw [List.map_append, List.map_cons, List.append_assoc]
    rfl
  have e2 : kOf D f t = numOf ((D.take j).map f ++ [f t]) (f t) := by
    unfold kOf
    rw [e1, numOf_pre (List.mem_append_right _ (List.mem_singleton.mpr rfl))]
  have hlt : i < (dist ((D.take j).map f)).length := by
    rw [e2] at hi
    by_cases h : f t ∈ (D.take j).map f
    · rw [numOf_pre h] at hi
      exact Nat.lt_trans hi (numOf_lt h)
    · rw [numOf_new h] at hi
      exact hi
  obtain ⟨x, hx, ex⟩ := numOf_all hlt
  obtain ⟨t', ht', rfl⟩ := List.mem_map.mp hx
  obtain ⟨j', hj', et⟩ := List.getElem_of_mem ht'
  rw [List.length_take] at hj'
  rw [List.getElem_take] at et
  refine ⟨j', t', by omega, by rw [← et]; exact List.getElem?_eq_getElem (by omega), ?_⟩
  unfold kOf
  rw [e1, List.append_assoc, numOf_pre hx]
  exact ex
/-- kinds that stay, in their order -/
structure Kin (n k g : Nat) (rs : List Nat) (l : List Kind) (c : List Nat → Nat) (N : Nat) : Prop where
  mok : MOk n k rs
  all : AllK k (shT ⟨n, k, rs, g⟩) l
  col : Col n k g rs (l.map (·.2)) c N
  stay : ∀ t ∈ l.map (·.2), ∀ t' ∈ l.map (·.2), c t = c t' → ∀ a, a < k → c (longerP n k rs t a) = c (longerP n k rs t' a)
  fst : Fst (l.map (·.2)) c
section
variable {n k g : Nat} {rs : List Nat} {l : List Kind} {c : List Nat → Nat} {N : Nat}
theorem Kin.mem (K : Kin n k g rs l c N) {u : Word} (hu : letters k u = true) : shT ⟨n, k, rs, g⟩ u ∈ l.map (·.2) := (K.all.reach K.mok).all K.mok u hu
theorem Kin.first (K : Kin n k g rs l c N) {u : Word} (hu : letters k u = true) {i : Nat} (hi : i < c (shT ⟨n, k, rs, g⟩ u)) : ∃ v, letters k v = true ∧ before v u = true ∧ c (shT ⟨n, k, rs, g⟩ v) = i := by
  obtain ⟨y, hy, ey, hb⟩ := K.all.all u hu
  obtain ⟨j, hj⟩ := List.getElem?_of_mem hy
  rw [← ey] at hi
  obtain ⟨j', t', hlt, hj', e⟩ := K.fst j y.2 (by rw [List.getElem?_map, hj]; rfl) i hi
  rw [List.getElem?_map] at hj'
  obtain ⟨z, hz, rfl⟩ := Option.map_eq_some_iff.mp hj'
  have hzm := List.mem_of_getElem? hz
  have hzy := K.all.later hz hj hlt
  refine ⟨z.1, (K.all.ks.tab z hzm).2, ?_, by rw [← (K.all.ks.tab z hzm).1]; exact e⟩
  rcases hb with h | h
  · rw [← h]; exact hzy
  · exact before_trans hzy h
theorem Kin.states (K : Kin n k g rs l c N) : statesOf ⟨n, k, rs, g⟩ = N := by
  refine states_done K.mok (K.all.reach K.mok) K.col (Nat.le_antisymm ?_ (fine_more K.col))
  have z := (dist_map (fun x : List Nat => x.headD 0) ((l.map (·.2)).map (fineF n k rs c)))
  rw [fine_head, col_count K.col] at z
  have y : ((dist ((l.map (·.2)).map (fineF n k rs c))).map fun x => x.headD 0).Nodup := by
    unfold List.Nodup
    rw [List.pairwise_map]
    refine List.Pairwise.imp_of_mem ?_ (dist_nodup _)
    intro a b ha hb hne e
    obtain ⟨t, ht, rfl⟩ := List.mem_map.mp ((dist_mem _ _).mp ha)
    obtain ⟨t', ht', rfl⟩ := List.mem_map.mp ((dist_mem _ _).mp hb)
    exact hne (fine_iff.mpr ⟨e, K.stay t ht t' ht' e⟩)
  have x := sub_len (m := List.range N) y fun x hx => by
    obtain ⟨a, ha, rfl⟩ := List.mem_map.mp hx
    obtain ⟨t, ht, rfl⟩ := List.mem_map.mp ((dist_mem _ _).mp ha)
    exact List.mem_range.mpr (K.col.lt t ht)
  rw [List.length_map, List.length_range] at x
  exact x
/-- a kind's row -/
def rowK (n k g : Nat) (rs : List Nat) (c : List Nat → Nat) (t : List Nat) : Bool × List Nat := (takenP n k g rs t, (List.range k).map fun a => c (longerP n k rs t a))
theorem Kin.rowk (K : Kin n k g rs l c N) {t t' : List Nat} (ht : t ∈ l.map (·.2)) (ht' : t' ∈ l.map (·.2)) (e : c t = c t') : rowK n k g rs c t = rowK n k g rs c t' := by
  unfold rowK
  rw [K.col.tk t ht t' ht' e]
  congr 1
  exact List.map_congr_left fun a ha => K.stay t ht t' ht' e a (List.mem_range.mp ha)
structure Rows (n k g : Nat) (rs : List Nat) (R : List (Bool × List Nat)) : Prop where
  ex : ∃ (l : List Kind) (c : List Nat → Nat) (N : Nat), Kin n k g rs l c N ∧ R.length = N ∧ ∀ t ∈ l.map (·.2), R[c t]? = some (rowK n k g rs c t)
theorem Rows.states {R : List (Bool × List Nat)} (h : Rows n k g rs R) : statesOf ⟨n, k, rs, g⟩ = R.length := by
  obtain ⟨l, c, N, K, e, _⟩ := h.ex
  rw [K.states, e]
theorem Kin.row_of (K : Kin n k g rs l c N) {R : List (Bool × List Nat)} (h : ∀ t ∈ l.map (·.2), R[c t]? = some (rowK n k g rs c t)) {u : Word} (hu : letters k u = true) :
    R[c (shT ⟨n, k, rs, g⟩ u)]? = some (takes ⟨n, k, rs, g⟩ u, (List.range k).map fun a => c (shT ⟨n, k, rs, g⟩ (u ++ [a]))) := by
  rw [h _ (K.mem hu)]
  unfold rowK
  rw [takes_is K.mok]
  congr 2
  exact List.map_congr_left fun a ha => by rw [longer_is K.mok.h0 K.mok.hn K.mok.hl K.mok.hf (by have := List.mem_range.mp ha; omega)]
theorem before_nil {v : Word} (h : before v [] = true) : False := by
  rcases before_iff.mp h with h | ⟨_, h⟩
  · exact Nat.not_lt_zero _ h
  · cases v <;> cases h
theorem Kin.zero (K : Kin n k g rs l c N) : c (shT ⟨n, k, rs, g⟩ []) = 0 := by
  refine Nat.eq_zero_of_not_pos fun h => ?_
  obtain ⟨v, _, hb, _⟩ := K.first (u := []) rfl h
  exact before_nil hb
end
section
variable {n o k g f : Nat} {rs ts : List Nat} {l l' : List Kind} {c c' : List Nat → Nat} {N N' : Nat}
end
end Mt

/-! ### the first word that is taken -/
namespace Mt
open Rd11
section
variable {n k g : Nat} {rs : List Nat} {l : List Kind}
/-- ahead of the turn i, a -/
def Ere (i a j b : Nat) : Prop := j < i ∨ (j = i ∧ b < a)
theorem AllK.heir (M : MOk n k rs) (A : AllK k (shT ⟨n, k, rs, g⟩) l) {i : Nat} {y : Kind} (hi : l[i]? = some y) : y.1 = [] ∨ ∃ (j a : Nat) (z : Kind), j < i ∧ a < k ∧ l[j]? = some z ∧ y.1 = z.1 ++ [a] := by
  by_cases hne : y.1 = []
  · exact .inl hne
  · have hy := List.mem_of_getElem? hi
    obtain ⟨ty, ly⟩ := A.ks.tab y hy
    have e := (List.dropLast_concat_getLast hne).symm
    generalize y.1.dropLast = v at e
    generalize y.1.getLast hne = a at e
    rw [e] at ly
    obtain ⟨lv, la⟩ := letters_snoc.mp ly
    obtain ⟨z, hz, ez, hb⟩ := A.all v lv
    obtain ⟨tz, lz⟩ := A.ks.tab z hz
    have e2 : shT ⟨n, k, rs, g⟩ (z.1 ++ [a]) = y.2 := by
      rw [ty, e]
      exact shT_cong M _ _ a la (tz ▸ ez)
    have zv : z.1 = v := by
      rcases hb with h | h
      · exact h
      · have h2 := before_snoc (a := a) h
        rw [← e] at h2
        rcases A.least hy (letters_snoc.mpr ⟨lz, la⟩) e2 with h3 | h3
        · rw [h3] at h2; exact absurd h2 before_irr
        · exact absurd (before_trans h2 h3) before_irr
    obtain ⟨j, hj⟩ := List.getElem?_of_mem hz
    refine .inr ⟨j, a, z, A.earlier hj hi ?_, la, hj, by rw [e, zv]⟩
    rw [e, zv, before_iff, List.length_append]
    exact .inl (by simp)
theorem AllK.short (M : MOk n k rs) (A : AllK k (shT ⟨n, k, rs, g⟩) l) : ∀ (i : Nat) (y : Kind), l[i]? = some y → y.1.length ≤ i := by
  intro i
  induction i using Nat.strongRecOn with
  | _ i ih =>
    intro y hi
    rcases A.heir M hi with e | ⟨j, a, z, hj, _, hz, e⟩
    · rw [e]; exact Nat.zero_le _
    · have := ih j hj z hz
      rw [e, List.length_append]
      show z.1.length + 1 ≤ i
      omega
/-- the words that are told at the turn i, a -/
structure WI (n k g : Nat) (rs : List Nat) (l : List Kind) (i a : Nat) (E : List (List Nat)) (W : List Nat → Word) : Prop where
  own : ∀ (j b : Nat) (y z : Kind), l[j]? = some z → b < k → Ere i a j b → y ∈ l → y.1 = z.1 ++ [b] → y.2 ∈ E ∧ W y.2 = y.1
  nil : ∀ y ∈ l, y.1 = [] → y.2 ∈ E ∧ W y.2 = y.1
  val : ∀ x ∈ E, letters k (W x) = true ∧ shT ⟨n, k, rs, g⟩ (W x) = x ∧ (W x = [] ∨ ∃ (j b : Nat) (z : Kind), Ere i a j b ∧ b < k ∧ l[j]? = some z ∧ W x = z.1 ++ [b])
theorem WI.start (M : MOk n k rs) (A : AllK k (shT ⟨n, k, rs, g⟩) l) : WI n k g rs l 0 0 [emptyP n k rs] (fun _ => []) := by
  refine ⟨fun j b y z _ _ he => ?_, fun y hy e => ?_, fun x hx => ?_⟩
  · rcases he with h | ⟨_, h⟩
    · exact absurd h (Nat.not_lt_zero _)
    · exact absurd h (Nat.not_lt_zero _)
  · refine ⟨List.mem_singleton.mpr ?_, e.symm⟩
    rw [(A.ks.tab y hy).1, e, empty_is (g := g) M.h0 M.hn M.hl M.hf]
  · rw [List.mem_singleton.mp hx]
    exact ⟨rfl, (empty_is M.h0 M.hn M.hl M.hf).symm, .inl rfl⟩
theorem WI.at (M : MOk n k rs) (A : AllK k (shT ⟨n, k, rs, g⟩) l) {i : Nat} {E : List (List Nat)} {W : List Nat → Word} (I : WI n k g rs l i 0 E W) {y : Kind} (hi : l[i]? = some y) : y.2 ∈ E ∧ W y.2 = y.1 := by
  have hy := List.mem_of_getElem? hi
  rcases A.heir M hi with e | ⟨j, b, z, hj, hb, hz, e⟩
  · exact I.nil y hy e
  · exact I.own j b y z hz hb (.inl hj) hy e
theorem ere_next {i a j b : Nat} : Ere i (a + 1) j b ↔ Ere i a j b ∨ (j = i ∧ b = a) := by
  unfold Ere
  omega
/-- the table of the turn is told: nothing is new -/
theorem WI.old (M : MOk n k rs) (A : AllK k (shT ⟨n, k, rs, g⟩) l) {i a : Nat} {E : List (List Nat)} {W : List Nat → Word} (I : WI n k g rs l i a E W) {y : Kind} (hi : l[i]? = some y) (ha : a < k) (h : longerP n k rs y.2 a ∈ E) : WI n k g rs l i (a + 1) E W := by
  have hy := List.mem_of_getElem? hi
  obtain ⟨ty, ly⟩ := A.ks.tab y hy
  rw [ty, longer_is M.h0 M.hn M.hl M.hf (by omega)] at h
  refine ⟨fun j b x z hz hb he hx ex => ?_, I.nil, fun x hx => ?_⟩
  · rcases ere_next.mp he with he | ⟨rfl, rfl⟩
    · exact I.own j b x z hz hb he hx ex
    · rw [hi] at hz
      cases hz
      have tx := (A.ks.tab x hx).1
      rw [ex] at tx
      have hE := h
      rw [← tx] at hE
      refine ⟨hE, ?_⟩
      obtain ⟨lw, tw, wh⟩ := I.val _ hE
      rcases A.least hx lw tw with e | e
      · exact e.symm
      · rw [ex] at e
        rcases wh with w0 | ⟨j', b', z', he', hb', hz', w1⟩
        · rw [w0] at e; exact absurd e before_nil
        · rw [w1] at e
          have f : before (z'.1 ++ [b']) (y.1 ++ [b]) = true := by
            rcases he' with hlt | ⟨rfl, hlt⟩
            · have q := A.later hz' hi hlt
              rw [before_iff, List.length_append, List.length_append]
              rcases before_iff.mp q with q | ⟨q1, q2⟩
              · exact .inl (by simp; exact q)
              · exact .inr ⟨by simp; exact q1, lower_app q2 _ _⟩
            · rw [hi] at hz'
              cases hz'
              rw [before_iff]
              exact .inr ⟨by simp, lower_pre _ (lower_cons.mpr (.inl hlt))⟩
          exact absurd (before_trans e f) before_irr
  · obtain ⟨h1, h2, h3⟩ := I.val x hx
    refine ⟨h1, h2, ?_⟩
    rcases h3 with h3 | ⟨j, b, z, he, r⟩
    · exact .inl h3
    · exact .inr ⟨j, b, z, ere_next.mpr (.inl he), r⟩
/-- it is new: its word is told -/
theorem WI.new (M : MOk n k rs) (A : AllK k (shT ⟨n, k, rs, g⟩) l) {i a : Nat} {E : List (List Nat)} {W : List Nat → Word} (I : WI n k g rs l i a E W) {y : Kind} (hi : l[i]? = some y) (ha : a < k) (h : longerP n k rs y.2 a ∉ E) :
    WI n k g rs l i (a + 1) (E ++ [longerP n k rs y.2 a]) (fun x => if x = longerP n k rs y.2 a then y.1 ++ [a] else W x) := by
  have hy := List.mem_of_getElem? hi
  obtain ⟨ty, ly⟩ := A.ks.tab y hy
  have et : longerP n k rs y.2 a = shT ⟨n, k, rs, g⟩ (y.1 ++ [a]) := by rw [ty, longer_is M.h0 M.hn M.hl M.hf (by omega)]
  generalize longerP n k rs y.2 a = t at h et
  have keep : ∀ x, x ∈ E → x ≠ t := fun x hx e => h (e ▸ hx)
  refine ⟨fun j b x z hz hb he hx ex => ?_, fun x hx ex => ?_, fun x hx => ?_⟩
  · rcases ere_next.mp he with he | ⟨rfl, rfl⟩
    · obtain ⟨q1, q2⟩ := I.own j b x z hz hb he hx ex
      refine ⟨List.mem_append_left _ q1, ?_⟩
      rw [if_neg (keep _ q1)]
      exact q2
    · rw [hi] at hz
      cases hz
      have tx : x.2 = t := by rw [(A.ks.tab x hx).1, ex, et]
      rw [tx]
      refine ⟨List.mem_append_right _ (List.mem_singleton.mpr rfl), ?_⟩
      rw [if_pos rfl, ex]
  · obtain ⟨q1, q2⟩ := I.nil x hx ex
    refine ⟨List.mem_append_left _ q1, ?_⟩
    rw [if_neg (keep _ q1)]
    exact q2
  · rcases List.mem_append.mp hx with hx | hx
    · rw [if_neg (keep _ hx)]
      obtain ⟨h1, h2, h3⟩ := I.val x hx
      refine ⟨h1, h2, ?_⟩
      rcases h3 with h3 | ⟨j, b, z, he, r⟩
      · exact .inl h3
      · exact .inr ⟨j, b, z, ere_next.mpr (.inl he), r⟩
    · rw [List.mem_singleton.mp hx, if_pos rfl]
      exact ⟨letters_snoc.mpr ⟨ly, ha⟩, et.symm, .inr ⟨i, a, y, ere_next.mpr (.inr ⟨rfl, rfl⟩), ha, hi, rfl⟩⟩
theorem WI.turn {i : Nat} {E : List (List Nat)} {W : List Nat → Word} (I : WI n k g rs l i k E W) : WI n k g rs l (i + 1) 0 E W := by
  refine ⟨fun j b y z hz hb he hy e => I.own j b y z hz hb ?_ hy e, I.nil, fun x hx => ?_⟩
  · unfold Ere at *; omega
  · obtain ⟨h1, h2, h3⟩ := I.val x hx
    refine ⟨h1, h2, ?_⟩
    rcases h3 with h3 | ⟨j, b, z, he, r⟩
    · exact .inl h3
    · exact .inr ⟨j, b, z, by unfold Ere at *; omega, r⟩
theorem WI.len (M : MOk n k rs) (A : AllK k (shT ⟨n, k, rs, g⟩) l) {i a : Nat} {E : List (List Nat)} {W : List Nat → Word} (I : WI n k g rs l i a E W) {x : List Nat} (hx : x ∈ E) : (W x).length ≤ l.length := by
  obtain ⟨_, _, h⟩ := I.val x hx
  rcases h with e | ⟨j, b, z, _, _, hz, e⟩
  · rw [e]; exact Nat.zero_le _
  · have q := A.short M j z hz
    have hj := (List.getElem?_eq_some_iff.mp hz).1
    rw [e, List.length_append]
    show z.1.length + 1 ≤ _
    omega
end
end Mt

/-! ### the answers of first and same -/
namespace Mt
open Rd11 Rd11Neutral
end Mt

/-! ### halts: a machine that leaves where the other stops -/
namespace Mt
open Rd11 Rd11Neutral
section
variable {n k g g' : Nat} {rs : List Nat} {w : Word}
theorem odd_is (n : Nat) : ((2 * n + 1) % 2 == 1) = true ∧ (2 * n + 1) / 2 = n := by
  have a : (2 * n + 1) % 2 = 1 := by omega
  have b : (2 * n + 1) / 2 = n := by omega
  rw [a, b]
  exact ⟨rfl, rfl⟩
end
end Mt

/-! ### count: over the kinds of words -/
namespace Mt
open Rd11 Rd11Neutral
section
variable {n k g : Nat} {rs : List Nat}
def waysP (R : List Rd11.State) (p : Nat) : Nat → List Nat := iter (cstep R p) (c0 R)
theorem ways_len (R : List Rd11.State) (p : Nat) : ∀ s, (waysP R p s).length = R.length
  | 0 => by show (c0 R).length = _; unfold c0; rw [List.length_map]
  | s + 1 => by show (cstep R p _).length = _; unfold cstep; rw [List.length_map]
theorem ways_at {R : List Rd11.State} {l : List Kind} {c : List Nat → Nat} {N : Nat} (K : Kin n k g rs l c N) (hr : ∀ t ∈ l.map (·.2), R[c t]? = some (rowK n k g rs c t)) {p : Nat} (hp : 2 ≤ p) :
    ∀ (s : Nat) (u : Word), letters k u = true → (waysP R p s)[c (shT ⟨n, k, rs, g⟩ u)]? = some (Nc ⟨n, k, rs, g⟩ u s % p)
  | 0, u, hu => by
    show (c0 R)[c (shT ⟨n, k, rs, g⟩ u)]? = _
    unfold c0
    rw [List.getElem?_map, K.row_of hr hu, Nc_zero]
    show some (if takes ⟨n, k, rs, g⟩ u = true then 1 else 0) = _
    congr 1
    by_cases h : takes ⟨n, k, rs, g⟩ u = true
    · rw [if_pos h, Nat.mod_eq_of_lt (by omega)]
    · rw [if_neg h, Nat.mod_eq_of_lt (by omega)]
  | s + 1, u, hu => by
    show (cstep R p (waysP R p s))[c (shT ⟨n, k, rs, g⟩ u)]? = _
    unfold cstep
    rw [List.getElem?_map, K.row_of hr hu, Nc_succ]
    show some ((((List.range k).map fun a => c (shT ⟨n, k, rs, g⟩ (u ++ [a]))).map fun r => (waysP R p s).getD r 0).sum % p) = some (((List.range k).map fun a => Nc ⟨n, k, rs, g⟩ (u ++ [a]) s).sum % p)
    congr 1
    rw [List.map_map]
    refine sum_mod p _ _ _ fun a ha => ?_
    show (waysP R p s).getD (c (shT ⟨n, k, rs, g⟩ (u ++ [a]))) 0 % p = _
    rw [List.getD_eq_getElem?_getD, ways_at K hr hp s (u ++ [a]) (letters_snoc.mpr ⟨hu, List.mem_range.mp ha⟩)]
    exact Nat.mod_mod _ _
/-- **how many of a length are taken, by the kinds** -/
theorem count_done {R : List Rd11.State} (hR : Rows n k g rs R) {p : Nat} (hp : 2 ≤ p) (len : Nat) : (waysP R p len)[0]? = some (countOf ⟨n, k, rs, g⟩ len p) := by
  obtain ⟨l, c, N, K, _, hr⟩ := hR.ex
  have hm : (⟨n, k, rs, g⟩ : Machine).n ≤ 500 := by show n ≤ 500; have := K.mok.hn; omega
  have z := ways_at K hr hp len [] rfl
  rw [K.zero] at z
  rw [z, count_is hm K.mok.h0]
  rfl
/-- where the letters lead: kinds again -/
theorem Rows.below {R : List Rd11.State} (hR : Rows n k g rs R) {r : Rd11.State} (h : r ∈ R) : r.2.length = k ∧ ∀ j ∈ r.2, j < R.length := by
  obtain ⟨l, c, N, K, eN, hr⟩ := hR.ex
  obtain ⟨i, hi⟩ := List.getElem?_of_mem h
  have hl : i < N := by rw [← eN]; exact (List.getElem?_eq_some_iff.mp hi).1
  obtain ⟨t, ht, e⟩ := K.col.sur i hl
  have z := hr t ht
  rw [e, hi] at z
  have z := Option.some.inj z
  subst z
  refine ⟨by unfold rowK; rw [List.length_map, List.length_range], fun j hj => ?_⟩
  unfold rowK at hj
  obtain ⟨a, ha, rfl⟩ := List.mem_map.mp hj
  rw [eN]
  exact K.col.lt _ ((K.all.reach K.mok).go t ht a (List.mem_range.mp ha))
end
theorem count_ask {n k g e p : Int} {rs : List Int} (h : PyRd11.count_asked n k g e p rs = true) : Rd11Neutral.rules n k rs = true ∧ natural g 32 = true ∧ natural e 32 = true ∧ natural p 32 = true ∧ few n = true := by
  have z : (Rd11Neutral.rules n k rs && (natural g 32 && (natural e 32 && (natural p 32 && few n)))) = true := asked_one h
  rw [Bool.and_eq_true, Bool.and_eq_true, Bool.and_eq_true, Bool.and_eq_true] at z
  exact z
theorem countP_is (n k g e p : Int) (rs : List Int) : PyRd11.count n k g e p rs = outOf (Rd11.answer (.count (int32 n) (int32 k) (nats rs) g.toNat (int32 e) (int32 p))) := rfl
theorem count_two {n k g e p : Int} {rs : List Int} (h : countOk (int32 n) (int32 k) (int32 e) (int32 p) = false) : PyRd11.count n k g e p rs = [-2] := by
  rw [countP_is]
  unfold Rd11.answer
  dsimp only
  rw [h, Bool.false_and, if_neg Bool.false_ne_true]
  rfl
theorem count_three {n k g e p : Int} {rs : List Int} (h : countOk (int32 n) (int32 k) (int32 e) (int32 p) = true) (h2 : machineOk (int32 n) (int32 k) (nats rs) g.toNat = false) : PyRd11.count n k g e p rs = [-3] := by
  rw [countP_is]
  unfold Rd11.answer
  dsimp only
  rw [h, h2, Bool.and_false, if_neg Bool.false_ne_true]
  rfl
theorem count_four {n k g e p : Int} {rs : List Int} (h : countOk (int32 n) (int32 k) (int32 e) (int32 p) = true) (h2 : machineOk (int32 n) (int32 k) (nats rs) g.toNat = true) :
    PyRd11.count n k g e p rs = [((countOf (made (int32 n) (int32 k) (nats rs) g.toNat) (int32 e).toNat (int32 p).toNat : Nat) : Int)] := by
  rw [countP_is]
  unfold Rd11.answer
  dsimp only
  rw [h, h2, Bool.and_true, if_pos rfl]
  rfl
end Mt

end
set_option maxHeartbeats 2000000
/-! ### words of my own over the layer -/
namespace Dk
open PySem PySem.Spec PyProof.Rows L2 Mt
open PySem.W (Codec)
/-- a module's name that holds a number, a text -/
def IsI (mg : Str → Option Value) (x : Str) (i : Int) : Prop := ∃ t, mg x = some (.int i t)
def IsS (mg : Str → Option Value) (x : Str) (z : Str) : Prop := ∃ t, mg x = some (.str z t)
/-- a def of the text, of k calls' room, that keeps a promise -/
def Fn (P : Program) (w : World) (K : PySem.W.Frag) (mg : Str → Option Value) (base : Heap) (x : Str) (k : Nat) (ps : List Str) (sp : Sp) : Prop :=
  ∃ f fd, FnOk P w K mg base CX0 k f fd ps sp ∧ mg x = some (.ref f) ∧ PySem.W.keepIn K (.ref f) = true ∧ Binds K fd ps []
/-- a def as it stands in the text -/
def Df (K : PySem.W.Frag) (mg : Str → Option Value) (x : Str) (st : Stmt) : Prop := ∃ f fd, Fun K x x st f fd ∧ mg x = some (.ref f)
theorem Fn.mono {P : Program} {w : World} {K : PySem.W.Frag} {mg : Str → Option Value} {base : Heap} {x : Str} {j k : Nat} {ps : List Str} {sp : Sp} (F : Fn P w K mg base x j ps sp) (h : j ≤ k) : Fn P w K mg base x k ps sp := by
  obtain ⟨f, fd, a, b⟩ := F
  exact ⟨f, fd, a.mono h, b⟩
section
variable {X : Cx} {x : Str} {pos p : Pos} {e : Expr} {es : List Expr} {t : TA} {k : Nat} {ps : List Str} {sp : Sp}
theorem pe_gi {i : Int} (h : IsI X.mg x i) (hg : Gl X x := by rfl) (hd : (x == ("__debug__" : Str)) = false := by decide) : PE X (.Name x pos) (tC (.int i)) := by
  obtain ⟨t, h⟩ := h
  exact pe_glob hg h ⟨t, rfl⟩ hd
theorem pe_fn (F : Fn X.prog X.w X.K X.mg X.base x k ps sp) (hr : Room k X.A) (ha : PA X (e :: es) t) (hg : Gl X x := by rfl) (hdb : (x == ("__debug__" : Str)) = false := by decide)
    (he : starEach (e :: es) X.env = (false, eval e X.env) :: starEach es X.env := by rfl) (hpl : (backTo pos (starEach es X.env)).any (·.1) = false := by rfl) : PE X (.Call (.Name x p) (e :: es) [] pos) (tCall sp [] E0 t) := by
  obtain ⟨f, fd, F, hm, hk, hb⟩ := F
  exact pe_call F hr hg hm hk hb .nil pass0 ha hdb he hpl
/-- a tuple's targets inside a comprehension: the text's objects named from outside -/
theorem pg_tupK {K0 : PySem.W.Frag} {es : List Expr} {k : Nat} {t : TGs} {n : Nat} (hK : X.K = K0) (hc : X.calm = true) (h : PGs X es t) (hn : (assignEach es X.env).length = n := by rfl) (hst : (assignEach es X.env).findIdx? (·.1) = none := by rfl) : PG X (.Tuple es k pos) (gTup K0 n t) := by
  subst hK
  exact pg_tup hc h hn hst
/-- list + list, of any lists that are read -/
def rCatS (K : PySem.W.Frag) : R2 := fun x y H Q => ∃ l b xs zs, x = .ref l ∧ y = .ref b ∧ SqL K H l xs ∧ SqL K H b zs ∧ xs.length + zs.length ≤ sizeLine ∧ ∀ p, H p = none → Q (.ref p) (upd H p (.lst (xs ++ zs)))
theorem op_catS : OpR X (binaryOp .Add) (rCatS X.K) := by
  intro pins s σ H x y v u Q I rx ry h
  obtain ⟨l, b, xs, zs, rfl, rfl, hH, hB, hz, q⟩ := h
  cases rx
  cases ry
  obtain ⟨its, r, ⟨⟨cls, dd, data, sl⟩, n, ho, hc, _, hd⟩, _⟩ := I.list hH
  obtain ⟨its2, r2, ⟨⟨cls2, dd2, data2, sl2⟩, n2, ho2, hc2, _, hd2⟩, _⟩ := I.list hB
  simp only at hc hd hc2 hd2
  subst hc hd hc2 hd2
  have el := r.length
  have el2 := r2.length
  have e : its.toArray ++ its2.toArray = (its ++ its2).toArray := by simp
  refine concat_meets ⟨_, ho, rfl⟩ ⟨_, ho2, rfl⟩ noFill_list_add seq_list_add PySem.F.slot_list_add PySem.F.entry_list_add (PySem.F.args_list_add_2 _ _) (list_addW l b its.toArray its2.toArray n n2 dd dd2 sl sl2 (by rw [List.size_toArray, List.size_toArray]; omega)) ⟨ho, ho2, ?_⟩
  rw [e]
  exact ⟨.ref _, _, I.lnew (t' := s.toks) (r.append r2) (by rw [List.length_append]; omega), rfl, q _ I.fresh⟩
end
/-- a comprehension over enumerate(list) -/
theorem lc_enum {K : PySem.W.Frag} {a : Addr} {xs : List V} {g : TG} {tt : TT} {te : TE} {vs : List Nat} {σ : L2.St} {H1 : Hp} {D : Addr} {Qd : Hp → Prop} (Pv : Nat → Hp → Prop) (h0 : Pv 0 (upd H1 D (.lst []))) (hl : ∀ i H, i ≤ xs.length → Pv i H → SqL K H a xs)
    (hs : ∀ i x H T, xs[i]? = some x → Pv i H → H T = none → g (.ref T) (wipe σ vs) (upd H T (.tup [.int (i : Nat), x])) fun σ2 H2 => wipe σ2 vs = wipe σ vs ∧ tt σ2 H2 fun b H3 =>
      if b = true then te σ2 H3 fun y H4 => ∃ acc, H4 D = some (.lst acc) ∧ acc.length < sizeLine ∧ Pv (i + 1) (upd H4 D (.lst (acc ++ [y]))) else Pv (i + 1) H3) (hd : ∀ H, Pv xs.length H → Qd H) :
    ∃ W : Nat → Nat → Hp → Prop, (∃ m, W 0 m (upd H1 D (.lst []))) ∧ ∀ i m H, W i m H →
      ((Ite K a).stop i H ∧ Qd H) ∨ ((Ite K a).go i H ∧ ∃ Nx : Hp → Prop, (∀ H', Nx H' → ∃ m', m' < m ∧ W (i + 1) m' H') ∧ ∀ x H', (Ite K a).yld i H x H' → g x (wipe σ vs) H' fun σ2 H2 => wipe σ2 vs = wipe σ vs ∧ tt σ2 H2 fun b H3 =>
        if b = true then te σ2 H3 fun y H4 => ∃ acc, H4 D = some (.lst acc) ∧ acc.length < sizeLine ∧ Nx (upd H4 D (.lst (acc ++ [y]))) else Nx H3) := by
  refine ⟨fun i m H => m = xs.length - i ∧ i ≤ xs.length ∧ Pv i H, ⟨xs.length, by simp, Nat.zero_le _, h0⟩, ?_⟩
  rintro i m H ⟨rfl, hi, p⟩
  have q := hl i H hi p
  by_cases hlt : i < xs.length
  · refine .inr ⟨⟨xs, xs[i], q, by simp [hlt]⟩, Pv (i + 1), fun H' p' => ⟨xs.length - (i + 1), by omega, rfl, hlt, p'⟩, fun x H' y => ?_⟩
    obtain ⟨T, z, rfl, hT, rfl, hz⟩ := y
    exact hs i z H T (hz xs q) p hT
  · have e : i = xs.length := by omega
    subst e
    exact .inl ⟨⟨xs, q, Nat.le_refl _⟩, hd H p⟩
theorem gen_heap {P : Hp → Prop} {H0 : Hp} {R : Hp → Prop} (h : R H0) (k : ∀ H', R H' → P H') : P H0 := k H0 h
theorem same_new {H : Hp} {p : Addr} (h : H p = none) (o : HO) : Same H (upd H p o) := fun b u q => by rw [upd_ne (ne_of_none q h)]; exact q
theorem take_snoc {α : Type} : ∀ {l : List α} {i : Nat} {x : α}, l[i]? = some x → l.take (i + 1) = l.take i ++ [x]
  | [], i, x, h => by simp at h
  | a :: l, 0, x, h => by
    have e : a = x := Option.some.inj h
    subst e
    rfl
  | a :: l, i + 1, x, h => by
    have ih := take_snoc (l := l) (i := i) (x := x) h
    show a :: l.take (i + 1) = a :: l.take i ++ [x]
    rw [ih]
    rfl
theorem dI (a b : Int) : decide (V.int a = V.int b) = decide (a = b) := decide_eq_decide.mpr ⟨V.int.inj, congrArg _⟩
theorem dN (a b : Nat) : decide (V.int (a : Int) = V.int (b : Int)) = decide (a = b) := decide_eq_decide.mpr ⟨fun h => Int.ofNat.inj (V.int.inj h), fun h => by rw [h]⟩
/-- numbers as values -/
def vN (l : List Nat) : List V := (casts l).map V.int
theorem vN_get {l : List Nat} {i x : Nat} (h : l[i]? = some x) : (vN l)[i]? = some (.int (x : Int)) := by
  unfold vN casts
  rw [List.getElem?_map, List.getElem?_map, h]
  rfl
theorem vN_of {l : List Nat} {i : Nat} {v : V} (h : (vN l)[i]? = some v) : ∃ x : Nat, l[i]? = some x ∧ v = .int (x : Int) := by
  unfold vN casts at h
  rw [List.getElem?_map, List.getElem?_map] at h
  cases e : l[i]? with
  | none => rw [e] at h; cases h
  | some x =>
    rw [e] at h
    exact ⟨x, rfl, (Option.some.inj h).symm⟩
theorem vN_len (l : List Nat) : (vN l).length = l.length := by
  unfold vN casts
  rw [List.length_map, List.length_map]
theorem int32_lo {z : Int} (h : z < 2147483648) : Rd11Neutral.int32 z = z := by
  unfold Rd11Neutral.int32
  rw [if_pos (by omega)]
theorem int32_hi {z : Int} (h : ¬ z < 2147483648) : Rd11Neutral.int32 z = z - 4294967296 := by
  unfold Rd11Neutral.int32
  rw [if_neg (by omega)]
  omega
end Dk
/-! ### a request's arguments, one by one -/
namespace Dk
open PySem PySem.Spec PyProof.Rows L2 Mt
open PySem.W (WData Codec)
theorem dw_cons {K : PySem.W.Frag} {H : Hp} {xs : List V} {d : WData} {ds : List WData} (h : DwAll K H xs (d :: ds)) : ∃ x ys, xs = x :: ys ∧ Dw K H x d ∧ DwAll K H ys ds := by
  cases h with
  | cons a b => exact ⟨_, _, rfl, a, b⟩
theorem dw_nil {K : PySem.W.Frag} {H : Hp} {xs : List V} (h : DwAll K H xs []) : xs = [] := by
  cases h
  rfl
theorem dw_int {K : PySem.W.Frag} {H : Hp} {x : V} {i : Int} (h : Dw K H x (.int i)) : x = .int i := by
  cases h
  rfl
theorem dw_lst {K : PySem.W.Frag} {H : Hp} {x : V} {ns : List Int} (h : Dw K H x (.list (ns.map WData.int))) : ∃ a, x = .ref a ∧ SqL K H a (ns.map V.int) := by
  cases h with
  | lst hs ha =>
    have e := ints_dw ns _ ha
    subst e
    exact ⟨_, rfl, hs⟩
end Dk

/-! ### more rules over the layer: setdefault, dicts by bools, the greatest of a dict's values -/
namespace Dk
open PySem PySem.Spec PyProof.Rows L2 Mt
open PySem.W (Codec)
section
variable {prog : Program} {w : World} {κ : Type} [DecidableEq κ] {kd : HeapKind prog w κ} {A : Around} {E : Value → Shared → Prop} {s : Shared}
/-- setdefault, the keys things of the heap -/
theorem sd_heap {d a : Addr} {xs : List (κ × Addr × Value)} {k : κ} {dv : Value} {Q : Value → Shared → Prop} (hu : kd.room A) (hk : kd.is s.heap k a) (hm : s.heap.DictOfH kd d xs) (hz : xs.length ≤ sizeLine)
    (h1 : ∀ p, atKey xs k = some p → Q p.2 { s with toks := s.toks + kd.draws k }) (h2 : atKey xs k = none → ∀ h', h'.DictOfH kd d (xs ++ [(k, a, dv)]) → Heap.SameBut d s.heap h' → Q dv { s with heap := h', toks := s.toks + kd.draws k }) :
    wpAny (model prog w) A (dictSetDefault d (.ref a) dv) Q E s := by
  obtain ⟨o, es, ep, ho, hc, hd, he, his, hn⟩ := hm
  unfold dictSetDefault
  refine wpAny_holding (wpAny_bind (kd.pyHash hu hk (wpAny_bind (wpAny_dictFind_heap (s := { s with toks := s.toks + kd.draws k }) hu hk ho hd he his hn (fun hno => ?_) (fun j p hj => ?_)))))
  · have hnot := not_mem_keys_of_get hno
    refine wpAny_bind (wpAny_rule (wpAny_bind (wpAny_updateDictKeys (s := { s with toks := s.toks + kd.draws k }) (hz := by rw [size_of_entries he]; exact hz) ho hd (wpAny_pure (h2 (atKey_none_of_get hno) _
      ⟨_, _, ep + 1, Heap.get?_update_self _ ho (Obj.isFreed_of_dict (Obj.data_mapDictKeys hd _)), hc.mapDictKeys _, Obj.data_mapDictKeys hd _, ?_, fun x hx => ?_, ?_⟩ (Heap.SameBut.update ..))))))
    · simp [he, entryOfKey]
    · rcases List.mem_append.mp hx with hx | hx
      · exact kd.keeps (his x hx) ho hd (Heap.SameBut.update ..)
      · rw [List.mem_singleton] at hx
        rw [hx]
        exact kd.keeps hk ho hd (Heap.SameBut.update ..)
    · rw [List.map_append, List.nodup_append]
      refine ⟨hn, by simp, fun x hx y hy e => hnot ?_⟩
      have z : y = k := by simpa using hy
      rw [← z, ← e]
      exact hx
  · refine wpAny_bind (wpAny_dictEntries (s := { s with toks := s.toks + kd.draws k }) ho hd ?_)
    rw [entry_at he j, hj]
    exact wpAny_bind (wpAny_rule (wpAny_pure (h1 p (atKey_of_get hn hj))))
theorem sd_meets (kd : HeapKind prog w κ) (d a : Addr) (hd : (d == sysModules) = false) (dv : Value) : MeetsIn prog w (Builtin.«dict.setdefault» ⟨[.ref d, .ref a, dv], []⟩) (fun A R s => kd.room A.in1 ∧ ∃ k xs, kd.is s.heap k a ∧ s.heap.DictOfH kd d xs ∧ xs.length ≤ sizeLine ∧
      (∀ p, atKey xs k = some p → R (.ok (.ret p.2)) { s with toks := s.toks + kd.draws k }) ∧ (atKey xs k = none → ∀ h', h'.DictOfH kd d (xs ++ [(k, a, dv)]) → Heap.SameBut d s.heap h' → R (.ok (.ret dv)) { s with heap := h', toks := s.toks + kd.draws k })) :=
  .of_wp fun A R s ⟨hu, k, xs, hk, hm, hz, h1, h2⟩ => by
    unfold Builtin.«dict.setdefault»; refine wpAny_bind ?_; unfold Builtin.Dict.keyAndDefault
    refine wpAny_bind (wpAny_notOrdered_dict hm.typeIs (show wpAny _ _ (pure (d, Value.ref a, some dv)) _ _ s from wpAny_pure ?_))
    show wpAny _ _ (if (d == sysModules) = true then _ else (dictSetDefault d (.ref a) dv >>= _)) _ _ s
    rw [if_neg (by rw [hd]; decide)]
    exact wpAny_bind (sd_heap hu hk hm hz (fun p hp => wpAny_pure ⟨p.2, rfl, h1 p hp⟩) fun hn h' hm' hs' => wpAny_pure ⟨dv, rfl, h2 hn h' hm' hs'⟩)
end
/-! bools as keys -/
def isB : Bool → Value → Bool
  | b, .bool c => b == c
  | _, _ => false
theorem isB_shape {b : Bool} {v : Value} (h : isB b v = true) : v = .bool b := by
  cases v <;> simp_all [isB]
theorem isB_self (b : Bool) : isB b (.bool b) = true := by cases b <;> rfl
def hashB (b : Bool) : Int := if b = true then 1 else 0
section
variable {prog : Program} {w : World} {A : Around} {E : Value → Shared → Prop} {s : Shared}
theorem hash_bool {b : Bool} {Q : Int → Shared → Prop} (h : Q (hashB b) { s with toks := s.toks + 1 }) : wpAny (model prog w) A (pyHash (.bool b)) Q E s := by
  unfold pyHash
  refine wpAny_bind ?_
  rw [cRoomFor, if_neg (show ¬ ([Value.bool b].any Value.onHeap) = true from Bool.false_ne_true)]
  refine wpAny_pure (wpAny_bind (wpAny_specialOf (T := "bool") rfl F.slot_bool_hash.lookup ?_))
  show wpAny _ _ (if (some (Value.builtin "int.__hash__") == some Value.none) = true then _ else _) Q E s
  rw [if_neg (by rw [beq_builtin_none]; decide)]
  refine wpAny_bind (wpAny_specialOf (T := "bool") rfl F.slot_bool_hash.lookup ?_)
  show wpAny _ _ (callSpecialIfBoundUnlessNone? (.bool b) "__hash__" _ >>= _) Q E s
  refine wpAny_bind (wpAny_callSpecialIfBoundUnlessNone?_slot (T := "bool") rfl F.slot_bool_hash (wpAny_call_entry (T := "bool") F.slot_bool_hash rfl entry_int_hash ?_ (args_int_hash _)))
  cases b
  · exact (show wpAny _ _ (do ret (← mkInt 0)) _ _ s from wpAny_bind (wpAny_mkInt (wpAny_pure ⟨_, rfl, wpAny_pure h⟩)))
  · exact (show wpAny _ _ (do ret (← mkInt 1)) _ _ s from wpAny_bind (wpAny_mkInt (wpAny_pure ⟨_, rfl, wpAny_pure h⟩)))
end
def boolKind (prog : Program) (w : World) : PySem.KeyKind prog w Bool where
  is := isB
  hash := hashB
  inj := fun v a b ha hb => by have e := (isB_shape ha).symm.trans (isB_shape hb); injection e
  byValue := fun k v h => by rw [isB_shape h]; rfl
  pyHash := fun hv h => by rw [isB_shape hv]; exact hash_bool h
  eqBool := fun {A E s a b u v Q} hu hv h => by
    rw [isB_shape hu, isB_shape hv]
    refine SeqAt.EqAt.bool_bool a b _ _ _ _ ?_
    have e : (a == b) = decide (a = b) := by cases a <;> cases b <;> rfl
    rw [e]; exact h
  «strs» := fun k x t v h => by cases (isB_shape h)
/-- a dict whose keys are bools -/
def DB (P : Program) (w : World) (a : Addr) (kvs : List (Bool × V)) : HO := .ext fun h => (a == sysModules) = false ∧ kvs.length ≤ sizeLine ∧ ∃ vs, KV kvs vs ∧ h.DictOf (boolKind P w) a vs
theorem db_mk {P : Program} {w : World} {a : Addr} {kvs : List (Bool × V)} {H : Hp} {h : Heap} {vs : List (Bool × Value)} (ha : (a == sysModules) = false) (hz : kvs.length ≤ sizeLine) (r : KV kvs vs) (dd : h.DictOf (boolKind P w) a vs) : ObjOk P w H h a (DB P w a kvs) := by
  refine ⟨⟨ha, hz, vs, r, dd⟩, ?_, ?_⟩
  · obtain ⟨o, _, _, e, _⟩ := dd
    exact ⟨o, e⟩
  · rintro h1 h2 ⟨x1, x2, vs, r, o, es, ep, e, t⟩ k
    exact ⟨x1, x2, vs, r, o, es, ep, k o e, t⟩
section
variable {X : Cx} {pins : List (Addr × Obj)} {σ : L2.St} {H : Hp} {s : Shared} {a : Addr}
theorem db_of {kvs : List (Bool × V)} (I : Inv X pins σ H s) (e : H a = some (DB X.prog X.w a kvs)) : (a == sysModules) = false ∧ kvs.length ≤ sizeLine ∧ ∃ vs, KV kvs vs ∧ s.heap.DictOf (boolKind X.prog X.w) a vs := by
  obtain ⟨h, _⟩ := I.hok a _ e
  exact h
end
/-! the values of a dict by tuples, one after another -/
section
variable {prog : Program} {w : World} {A : Around} {E : Value → Shared → Prop} {s : Shared} {it d : Addr} {i n ep : Nat} {od : Obj} {es : Array DictEntry}
theorem val_item {en : DictEntry} {Q : Option Value → Shared → Prop} (hit : s.heap.IsValIter it d i n ep) (hod : s.heap.get? d = some od) (hdd : od.data = .dict es ep) (hsz : es.size = n) (hx : es[i]? = some en)
    (hQ : ∀ h', h'.IsValIter it d (i + 1) n ep → Heap.SameBut it s.heap h' → Q (some en.val) { s with heap := h' }) : wpAny (model prog w) A (pyNext (.ref it)) Q E s := by
  obtain ⟨o, ho, hc, hd⟩ := id hit
  unfold pyNext
  refine wpAny_bind (wpAny_attempt (wpAny_callSpecial?_slot (name := Str.ofString "__next__") hit.typeIs F.slot_dict_valueiterator_next (wpAny_call_entry F.slot_dict_valueiterator_next hit.typeIs F.entry_dict_valueiterator_next ?_ (F.args_dict_valueiterator_next_1 _))))
  refine wpAny_bind (wpAny_pure ?_); refine wpAny_bind (wpAny_bind ?_)
  refine wpAny_bind (wpAny_typeNameOfWhole_valiter hit.typeIs (wpAny_pure (wpAny_bind (wpAny_fieldsOf ho hd ?_))))
  have how : Builtin.Dict_items.ownsTuple "dict_valueiterator" = false := by decide
  simp only [how, Bool.false_eq_true, if_false]
  show wpAny _ _ (if (Value.ref d == Value.none) = true then _ else _) _ _ s
  rw [if_neg (show ¬ (Value.ref d == Value.none) = true from Bool.false_ne_true)]
  refine wpAny_bind (wpAny_pure (wpAny_bind (wpAny_dictEntries hod hdd ?_)))
  rw [if_neg (by rw [hsz]; simp)]; refine wpAny_bind (wpAny_pure (wpAny_bind (wpAny_dictEpoch hod hdd ?_)))
  rw [if_neg (by simp)]; refine wpAny_pure ?_
  obtain ⟨hlt, hen⟩ := Array.getElem?_eq_some_iff.mp hx
  simp only [show ¬ ((i : Int) < 0) by omega, if_false, Int.toNat_natCast, Array.getElem?_eq_getElem hlt]
  refine wpAny_bind (wpAny_bind (wpAny_typeNameOfWhole_valiter hit.typeIs (wpAny_pure ?_)))
  refine wpAny_bind (wpAny_isOneOf_valiter hit.typeIs ?_)
  refine (show wpAny _ _ (setField (.ref it) 1 (rawInt ((i : Int) + 1)) >>= _) _ _ s from wpAny_bind (wpAny_setField ho hd (by simp) ?_))
  have hit' : (s.heap.update it (Obj.mapFields (·.setIfInBounds 1 (rawInt ((i : Int) + 1))))).IsValIter it d (i + 1) n ep :=
    ⟨_, Heap.get?_update_self _ ho (Obj.isFreed_of_fields (Obj.data_mapFields hd _)), (Obj.cls_mapFields ..).trans hc, by rw [Obj.data_mapFields hd] ; simp [rawInt]⟩
  refine wpAny_bind (wpAny_holding (wpAny_bind (wpAny_isOneOf_valiter (s := { s with heap := s.heap.update it (Obj.mapFields (·.setIfInBounds 1 (rawInt ((i : Int) + 1)))) }) hit'.typeIs ?_)))
  refine wpAny_bind ((wpAny_isOneOf_valiter (s := { s with heap := s.heap.update it (Obj.mapFields (·.setIfInBounds 1 (rawInt ((i : Int) + 1)))) }) hit'.typeIs ?_))
  show wpAny _ _ (pure es[i].val) _ _ _; rw [hen]
  exact wpAny_pure (wpAny_pure ⟨_, rfl, wpAny_pure (hQ _ hit' (Heap.SameBut.update ..))⟩)
theorem val_end {Q : Option Value → Shared → Prop} (hh : A.handled = none) (hit : s.heap.IsValIter it d i n ep) (hod : s.heap.get? d = some od) (hdd : od.data = .dict es ep) (hsz : es.size = n) (hge : n ≤ i)
    (hQ : ∀ h', Heap.ExtBut it s.heap h' → Q none { s with heap := h' }) : wpAny (model prog w) A (pyNext (.ref it)) Q E s := by
  obtain ⟨o, ho, hc, hd⟩ := id hit
  unfold pyNext
  refine wpAny_bind (wpAny_attempt (wpAny_callSpecial?_slot (name := Str.ofString "__next__") hit.typeIs F.slot_dict_valueiterator_next (wpAny_call_entry F.slot_dict_valueiterator_next hit.typeIs F.entry_dict_valueiterator_next ?_ (F.args_dict_valueiterator_next_1 _))))
  refine wpAny_bind (wpAny_pure ?_); refine wpAny_bind (wpAny_bind ?_)
  refine wpAny_bind (wpAny_typeNameOfWhole_valiter hit.typeIs (wpAny_pure (wpAny_bind (wpAny_fieldsOf ho hd ?_))))
  have how : Builtin.Dict_items.ownsTuple "dict_valueiterator" = false := by decide
  simp only [how, Bool.false_eq_true, if_false]
  show wpAny _ _ (if (Value.ref d == Value.none) = true then _ else _) _ _ s
  rw [if_neg (show ¬ (Value.ref d == Value.none) = true from Bool.false_ne_true)]
  refine wpAny_bind (wpAny_pure (wpAny_bind (wpAny_dictEntries hod hdd ?_)))
  rw [if_neg (by rw [hsz]; simp)]; refine wpAny_bind (wpAny_pure (wpAny_bind (wpAny_dictEpoch hod hdd ?_)))
  rw [if_neg (by simp)]; refine wpAny_pure ?_
  have hge' : es.size ≤ i := by omega
  simp only [show ¬ ((i : Int) < 0) by omega, if_false, Int.toNat_natCast, Array.getElem?_eq_none hge']
  refine wpAny_bind (wpAny_bind (wpAny_typeNameOfWhole_valiter hit.typeIs (wpAny_pure ?_)))
  refine (show wpAny _ _ (setField (.ref it) 0 .none >>= _) _ _ s from wpAny_bind (wpAny_setField ho hd (by simp) ?_))
  show wpAny _ _ (newExc (.type "StopIteration") [] >>= _) _ _ _; refine wpAny_bind ?_
  simp only [newExc, newTuple]; refine wpAny_bind (wpAny_newObj_type ?_ (by size_fits))
  refine wpAny_bind (m := firstArgMember _ _) (wpAny_of_eq (a := Value.none) (by first | rfl | (simp only [firstArgMember] ; rfl)) ?_)
  refine wpAny_newObj_type ?_ (by size_fits); simp only [raiseNew]
  refine wpAny_bind (wpAny_handled ?_); rw [show A.in1.handled = none from hh]
  refine wpAny_bind (wpAny_pure (wpAny_throw ?_)); refine wpAny_bind (wpAny_isInstance (T := "StopIteration") (b := true) ⟨_, Heap.get?_push_size _ rfl, rfl⟩ isSubtype_stop ?_)
  exact wpAny_pure (hQ _ (((Heap.SameBut.update ..).extBut.push _).push _))
/-- a raw dict at d -/
def RawD (h : Heap) (d : Addr) (es : Array DictEntry) (ep : Nat) : Prop := ∃ o, h.get? d = some o ∧ o.data = .dict es ep
theorem val_walks (hh : A.handled = none) (it d : Addr) (hne : d ≠ it) (es : Array DictEntry) (ep : Nat) :
    Walks prog w A it [it, d] [it] es.size (fun i v => ∃ en, es[i]? = some en ∧ v = en.val) (fun i h => h.IsValIter it d i es.size ep ∧ RawD h d es ep) where
  sub := fun b hb => by rw [List.mem_singleton] at hb; rw [hb]; exact List.mem_cons_self ..
  frame := fun _ _ _ st hk => ⟨st.1.at fun o e => hk it (List.mem_cons_self ..) o e, let ⟨o, e, r⟩ := st.2; ⟨o, hk d (List.mem_cons_of_mem _ (List.mem_cons_self ..)) o e, r⟩⟩
  item := fun i s Q E hi st hQ => by
    obtain ⟨st1, od, hod, hdd⟩ := st
    refine val_item st1 hod hdd rfl (Array.getElem?_eq_getElem hi) fun h' hit' hs' => ?_
    exact hQ _ h' s.toks ⟨_, Array.getElem?_eq_getElem hi, rfl⟩ ⟨hit', od, hs'.extBut d od hne hod, hdd⟩ fun b o hb e => hs'.extBut b o (fun z => hb (by rw [z]; exact List.mem_singleton.mpr rfl)) e
  done := fun s Q E st hQ => by
    obtain ⟨st1, od, hod, hdd⟩ := st
    exact val_end hh st1 hod hdd rfl (Nat.le_refl _) fun h' he' => hQ h' s.toks fun b o hb e => he' b o (fun z => hb (by rw [z]; exact List.mem_singleton.mpr rfl)) e
  self := fun _ _ _ _ st hQ => wpAny_pyIter_valiter st.1 hQ
theorem val_iter {v : Addr} {Q : Value → Shared → Prop} (hv : s.heap.IsValuesView v d) (hm : RawD s.heap d es ep)
    (hQ : Q (.ref s.heap.objs.size) { s with heap := s.heap.push { cls := .type "dict_valueiterator", data := .fields #[.ref d, .int 0 0, .int es.size 0, .int ep 0] } }) : wpAny (model prog w) A (pyIter (.ref v)) Q E s := by
  obtain ⟨ov, hov, hcv, hdv⟩ := id hv
  obtain ⟨o, ho, hdat⟩ := hm
  refine wpAny_pyIter_slot hv.typeIs F.slot_dict_values_iter (wpAny_call_entry F.slot_dict_values_iter hv.typeIs F.entry_dict_values_iter ?_ ((F.args_dict_values_iter_1 _)))
  unfold Builtin.«dict_values.__iter__»; refine wpAny_bind (wpAny_pure (wpAny_bind ?_)); unfold Builtin.Dict_items.dictOf
  refine wpAny_bind (wpAny_field hov hdv (x := .ref d) rfl (wpAny_pure (wpAny_bind ?_))); unfold Builtin.Dict_items.newIterator
  refine wpAny_bind (wpAny_dictEntries ho hdat (wpAny_bind (wpAny_dictEpoch ho hdat ?_)))
  have how : Builtin.Dict_items.ownsTuple "dict_valueiterator" = false := by decide
  simp only [how, Bool.false_eq_true, if_false]
  refine wpAny_newObj_type (wpAny_pure ⟨_, rfl, "dict_valueiterator", _, ⟨_, (Heap.get?_push_size _ rfl), rfl⟩, F.slot_dict_valueiterator_next.lookup, ?_⟩)
  simpa [rawInt] using hQ
theorem val_meets (d : Addr) (hd : (d == sysModules) = false) : MeetsIn prog w (Builtin.«dict.values» ⟨[.ref d], []⟩) (fun _ R s => s.TypeIs (.ref d) "dict" ∧
      R (.ok (.ret (.ref s.heap.objs.size))) { s with heap := s.heap.push { cls := .type "dict_values", data := .fields #[.ref d] } }) :=
  .of_wp fun A R s ⟨hT, h⟩ => by
    refine wpAny_bind ?_; unfold Builtin.Dict.noArgs; refine wpAny_bind (wpAny_notOrdered_dict hT ?_)
    show wpAny _ _ (pure d) _ _ s; refine wpAny_pure ?_
    show wpAny _ _ (Builtin.Dict.showsAll d >>= _) _ _ s; unfold Builtin.Dict.showsAll; rw [if_neg (by rw [hd]; decide)]
    exact wpAny_bind (wpAny_pure (wpAny_bind (wpAny_newObj_type (wpAny_pure ⟨_, rfl, h⟩))))
theorem len_meets (d : Addr) (hd : (d == sysModules) = false) : MeetsIn prog w (Builtin.«dict.__len__» ⟨[.ref d], []⟩) (fun _ R s => ∃ es ep, RawD s.heap d es ep ∧ R (.ok (.ret (.int es.size s.toks))) { s with toks := s.toks + 1 }) :=
  .of_wp fun A R s ⟨es, ep, ⟨o, ho, hdat⟩, h⟩ => by
    show wpAny _ _ (dictSize d >>= _) _ _ s; unfold dictSize; refine wpAny_bind (wpAny_bind (wpAny_dictEntries ho hdat (wpAny_pure ?_)))
    show wpAny _ _ (Builtin.Dict.pendingCount d >>= _) _ _ s; refine wpAny_bind (wpAny_pendingCount_other hd (wpAny_ret_mkInt ?_))
    rw [Nat.add_zero]; exact h
theorem len_raw {Q : Value → Shared → Prop} (hd : (d == sysModules) = false) (ho : s.heap.get? d = some od) (hc : od.ExactDict) (hdd : od.data = .dict es ep) (hfit : (es.size : Int) < 2 ^ 63) (h : Q (.int es.size (s.toks + 1)) { s with toks := s.toks + 1 + 1 }) : wpAny (model prog w) A (call (.builtin "len") [.ref d]) Q E s := by
  have hT : s.TypeIs (.ref d) "dict" := ⟨od, ho, hc.1⟩
  refine Calls.call_function_entry kind_len plain_len entry_len (args_len1 _) ?_
  unfold Builtin.«len»; refine wpAny_bind (m := oneArg "len" _) (wpAny_pure ?_)
  refine wpAny_bind (m := callSpecial? (.ref d) (Str.ofString "__len__")) (wpAny_callSpecial?_slot (name := Str.ofString "__len__") hT F.slot_dict_len (call_meetsIn F.slot_dict_len hT F.entry_dict_len (F.args_dict_len_1 _) (len_meets d hd) ⟨es, ep, ⟨od, ho, hdd⟩, ?_⟩))
  show wpAny _ _ _ _ _ { s with toks := s.toks + 1 }; refine wpAny_bind (wpAny_holding (wpAny_pure (wpAny_bind (wpAny_letGo ?_))))
  show wpAny _ _ (if ((es.size : Nat) : Int) < 0 then _ else _) _ _ _; rw [if_neg (by omega)]
  show wpAny _ _ (if ((es.size : Nat) : Int) ≥ 2 ^ 63 then _ else _) _ _ _; rw [if_neg (by omega)]
  exact (wpAny_bind (wpAny_mkInt (wpAny_pure ⟨_, rfl, h⟩)))
/-- the greatest of the values, all ints -/
theorem val_max {v : Addr} {ns : List Int} {Q : Value → Shared → Prop} (hh : A.handled = none) (hv : s.heap.IsValuesView v d) (hm : RawD s.heap d es ep) (hl : es.size = ns.length) (hx : ∀ (i : Nat) (x : Int), ns[i]? = some x → ∃ (en : DictEntry) (t : Tok), es[i]? = some en ∧ en.val = Value.int x t) (hne : 0 < ns.length)
    (h : ∀ h' tk M t', (∀ b o, s.heap.get? b = some o → h'.get? b = some o) → M ∈ ns → (∀ y ∈ ns, y ≤ M) → Q (.int M t') { s with heap := h', toks := tk }) : wpAny (model prog w) A (call (.builtin "max") [.ref v]) Q E s := by
  obtain ⟨o, ho, hdd⟩ := hm
  have hlt := Heap.lt_size ho
  refine call_max_walk (val_iter hv ⟨o, ho, hdd⟩ ?_)
  have hval : ∀ (i : Nat) (x : Value), (∃ en, es[i]? = some en ∧ x = en.val) → ∃ t, x = .int (ns.getD i 0) t := by
    rintro i x ⟨en, e, rfl⟩
    have hi : i < ns.length := by rw [← hl]; exact (Array.getElem?_eq_some_iff.mp e).1
    obtain ⟨en', t, e', z⟩ := hx i ns[i] (List.getElem?_eq_getElem hi)
    rw [e] at e'
    cases e'
    refine ⟨t, ?_⟩
    rw [z, List.getD_eq_getElem?_getD, List.getElem?_eq_getElem hi]
    rfl
  refine ⟨_, _, _, _, _, _, _, rfl, val_walks (A := A.in1) hh _ d (Nat.ne_of_lt hlt) es ep, ⟨⟨_, Heap.get?_push_size _ rfl, rfl, rfl⟩, o, Heap.get?_push_of_some _ ho, hdd⟩, ?_, by omega, CmpOf.ints_gt (fun i => ns.getD i 0) hval, ?_⟩
  · intro b hb
    show b < (s.heap.push _).objs.size
    rw [Heap.size_push]
    rcases List.mem_cons.mp hb with rfl | hb
    · exact Nat.lt_succ_self _
    · rw [List.mem_singleton.mp hb]; exact Nat.lt_succ_of_lt hlt
  · rintro y h' tk hP hk
    obtain ⟨t, rfl⟩ := hval _ _ hP
    obtain ⟨b1, b2⟩ := argBest_gt (fun i => ns.getD i 0) (es.size - 1)
    refine h h' tk _ t (fun b ob e => ?_) ?_ fun z hz => ?_
    · refine hk b ob (fun hm => ?_) (Heap.get?_push_of_some _ e)
      exact absurd (List.mem_singleton.mp hm ▸ Heap.lt_size e) (Nat.lt_irrefl _)
    · have hi : argBest (fun i j => decide (ns.getD i 0 > ns.getD j 0)) (es.size - 1) < ns.length := by omega
      show ns.getD _ 0 ∈ ns
      rw [List.getD_eq_getElem?_getD, List.getElem?_eq_getElem hi]
      exact List.getElem_mem hi
    · obtain ⟨j, hj, rfl⟩ := List.getElem_of_mem hz
      have q := b2 j (by omega)
      have e : ns.getD j 0 = ns[j] := by rw [List.getD_eq_getElem?_getD, List.getElem?_eq_getElem hj]; rfl
      rw [← e]
      exact q
end
end Dk

/-! ### numbers by marks, the greatest value -/
namespace Dk
open PySem PySem.Spec PyProof.Rows L2 Mt
open PySem.W (Codec)
section
variable {β κ : Type} [DecidableEq β] [DecidableEq κ]
/-- each mark with its number -/
def numE (enc : β → κ) (n : Nat) (l : List β) : List (κ × V) := (l.zipIdx n).map fun p => (enc p.1, V.int (p.2 : Nat))
theorem numE_val {enc : β → κ} (inj : ∀ a b, enc a = enc b → a = b) (b : β) : ∀ (l : List β) (n : Nat), valV (numE enc n l) (enc b) = if b ∈ l then some (.int ((n + l.idxOf b : Nat) : Int)) else none
  | [], n => by rw [if_neg (List.not_mem_nil)]; rfl
  | a :: l, n => by
    have e : numE enc n (a :: l) = (enc a, V.int (n : Nat)) :: numE enc (n + 1) l := by unfold numE; rw [List.zipIdx_cons, List.map_cons]
    rw [e]
    by_cases h : a = b
    · subst h
      rw [valV_pos (p := (enc a, V.int (n : Nat))) rfl, if_pos (List.mem_cons_self ..), List.idxOf_cons_self]
      rfl
    · rw [valV_neg (p := (enc a, V.int (n : Nat))) (fun z => h (inj _ _ z)), numE_val inj b l (n + 1)]
      by_cases hb : b ∈ l
      · have z : (a :: l).idxOf b = l.idxOf b + 1 := by rw [List.idxOf_cons, beq_eq_false_iff_ne.mpr h]; rfl
        have z2 : n + 1 + l.idxOf b = n + (l.idxOf b + 1) := by omega
        rw [if_pos hb, if_pos (List.mem_cons_of_mem _ hb), z, z2]
      · rw [if_neg hb, if_neg (fun z => (List.mem_cons.mp z).elim (fun y => h y.symm) hb)]
theorem numE_snoc (enc : β → κ) (l : List β) (b : β) : numE enc 0 (l ++ [b]) = numE enc 0 l ++ [(enc b, V.int (l.length : Nat))] := by
  unfold numE
  rw [List.zipIdx_append, List.map_append, Nat.zero_add]
  rfl
theorem numE_len (enc : β → κ) (n : Nat) (l : List β) : (numE enc n l).length = l.length := by
  unfold numE
  rw [List.length_map, List.length_zipIdx]
end
/-- what the marks are, and the dict that numbers them -/
structure MI (P : Program) (w : World) (β : Type) [DecidableEq β] where
  N : Addr → List β → HO
  Is : Hp → V → β → Prop
  up : ∀ {H H' : Hp} {y : V} {b : β}, (∀ c xs, H c = some (.tup xs) → H' c = some (.tup xs)) → Is H y b → Is H' y b
  mu : ∀ a l, Mut (some (N a l))
  notup : ∀ a l xs, N a l ≠ .tup xs
  new : ∀ {X : Cx}, X.prog = P → X.w = w → ∀ {pos : Pos}, PE X (.Dict [] [] pos) (fun _ H Q => ∀ p, H p = none → Q (.ref p) (upd H p (N p [])))
  len : ∀ {X : Cx}, X.prog = P → X.w = w → CallR X (.builtin "len") (fun xs H Q => ∃ a l, xs = [.ref a] ∧ H a = some (N a l) ∧ Q (.int (l.length : Nat)) H)
  typ : ∀ {X : Cx} {pins : List (Addr × Obj)} {σ : L2.St} {H : Hp} {s : Shared} {a : Addr} {l : List β}, X.prog = P → X.w = w → Inv X pins σ H s → H a = some (N a l) → s.TypeIs (.ref a) "dict" ∧ ∀ b, Value.ref a = .ref b → ∃ ob, s.heap.get? b = some ob ∧ ob.dict = none
  setd : ∀ {X : Cx} {pins : List (Addr × Obj)} {σ : L2.St} {H : Hp} {s : Shared} {a : Addr} {l : List β} {y : V} {b : β} {u r : Value} {A : Around} {Q : Value → Shared → Prop} {E : Value → Shared → Prop}, X.prog = P → X.w = w → A.units + 1 < cLine → Inv X pins σ H s → H a = some (N a l) → Is H y b →
    RelV y u → RelV (.int (l.length : Nat)) r → l.length < sizeLine → (∀ w' s', b ∈ l → Inv X pins σ H s' → RelV (.int (l.idxOf b : Nat)) w' → Q w' s') → (∀ s', b ∉ l → Inv X pins σ (upd H a (N a (l ++ [b]))) s' → Q r s') →
    wpAny (model X.prog X.w) A (call (.builtin "dict.setdefault") [.ref a, u, r]) Q E s
def miB (P : Program) (w : World) : MI P w Bool where
  N := fun a l => DB P w a (numE id 0 l)
  Is := fun _ y b => y = .bl b
  up := fun _ h => h
  mu := fun _ _ => trivial
  notup := fun _ _ _ z => nomatch z
  new := fun {X} hP hw pos pins s σ H Q I h => by
    subst hP hw
    refine wpAny_Dict_empty ⟨.ref s.heap.objs.size, _, I.laid (a := s.heap.objs.size) (o := DB X.prog X.w s.heap.objs.size []) (t' := s.toks) (fun _ _ q => Heap.get?_push_of_some _ q) (Nat.le_refl _) ?_, rfl, h _ (I.hok.fresh (Nat.le_refl _))⟩
    exact db_mk (beq_eq_false_iff_ne.mpr (Ne.symm (Nat.ne_of_lt I.big))) (Nat.zero_le _) (vs := []) .nil (Heap.DictOf.new s.heap)
  len := fun {X} hP hw pins s σ H xs us Q I r h => by
    subst hP hw
    obtain ⟨a, l, rfl, ha, q⟩ := h
    obtain ⟨u, rfl, ru⟩ := vals1 r
    cases ru
    obtain ⟨hd, z, vs, rel, dd⟩ := db_of I ha
    refine call_len_dict hd dd (by rw [← rel.length]; rw [sizeLine_eq] at z; omega) ⟨.int (l.length : Nat), H, I.tok _, ?_, q⟩
    rw [← rel.length, numE_len]
    exact ⟨_, rfl⟩
  typ := fun {X pins σ H s a l} hP hw I ha => by
    subst hP hw
    obtain ⟨hd, z, vs, rel, dd⟩ := db_of I ha
    exact ⟨dd.typeIs, dd.mapOf.noDict⟩
  setd := fun {X pins σ H s a l y b u r A Q E} hP hw hu I ha hy ry rr hl h1 h2 => by
    subst hP hw hy
    cases (show u = Value.bool b from ry)
    obtain ⟨hd, z, vs, rel, dd⟩ := db_of I ha
    refine call_meetsIn PySem.F.slot_dict_setdefault dd.typeIs PySem.F.entry_dict_setdefault (PySem.F.args_dict_setdefault_3 _ _ _) (kt_meets_setdefault (boolKind X.prog X.w) (k := b) (key := .bool b) a (show (boolKind X.prog X.w).is b (.bool b) = true from isB_self b) hd r) ⟨vs, dd, by rw [← rel.length]; exact z, fun v hv => ?_, fun hn h' dd' hs => ?_⟩
    · have q := rel.val b
      have e := numE_val (enc := (id : Bool → Bool)) (fun _ _ z => z) b l 0
      rw [Nat.zero_add] at e
      rw [show valV (numE id 0 l) b = _ from e, hv] at q
      by_cases hb : b ∈ l
      · rw [if_pos hb] at q
        exact h1 v _ hb (I.tok _) q
      · rw [if_neg hb] at q
        exact (show False from q).elim
    · have q := rel.val b
      have e := numE_val (enc := (id : Bool → Bool)) (fun _ _ z => z) b l 0
      rw [show valV (numE id 0 l) b = _ from e, hn] at q
      by_cases hb : b ∈ l
      · rw [if_pos hb] at q
        exact (show False from q).elim
      · refine h2 _ hb ?_
        have he : ∃ q, h'.get? a = some q := let ⟨q, _, _, hq, _⟩ := dd'; ⟨q, hq⟩
        have en : valV (numE id 0 l) b = none := e.trans (if_neg hb)
        have r2 : KV (numE id 0 (l ++ [b])) (stored vs b r) := by
          rw [numE_snoc]
          have z := rel.put b rr
          rw [putK_new _ en] at z
          exact z
        exact d_write I (by rw [ha]; exact trivial) hs he (db_mk hd (by rw [numE_len, List.length_append]; exact hl) r2 dd')
def keyT (t : List Nat) : List Key := t.map fun (x : Nat) => Sum.inl (x : Int)
theorem keyT_v (t : List Nat) : (keyT t).map kV = vN t := by
  unfold keyT vN casts
  rw [List.map_map, List.map_map]
  rfl
theorem keyT_inj (a b : List Nat) (h : keyT a = keyT b) : a = b := by
  refine List.map_inj_right (f := fun x : Nat => (Sum.inl (x : Int) : Key)) ?_ |>.mp h
  intro x y e
  exact Int.ofNat.inj (Sum.inl.inj e)
section
variable {X : Cx} {pins : List (Addr × Obj)} {σ : L2.St} {H : Hp} {s : Shared} {a b : Addr} {A : Around} {E : Value → Shared → Prop}
/-- d.setdefault(t, x), by tuples -/
theorem d_sdT {kvs : List (List Key × V)} {k : List Key} {x : V} {r : Value} {Q : Value → Shared → Prop} (hu : A.units + 1 < cLine) (I : Inv X pins σ H s) (e : H a = some (.dT kvs)) (eb : H b = some (.tup (k.map kV))) (hl : kvs.length < sizeLine) (rx : RelV x r)
    (h1 : ∀ v w' s', valV kvs k = some v → Inv X pins σ H s' → RelV v w' → Q w' s') (h2 : ∀ s', valV kvs k = none → Inv X pins σ (upd H a (.dT (kvs ++ [(k, x)]))) s' → Q r s') : wpAny (model X.prog X.w) A (call (.builtin "dict.setdefault") [.ref a, .ref b, r]) Q E s := by
  obtain ⟨z, hd, xs, rel, dd⟩ := dt_of I.hok e
  have hz : xs.length ≤ sizeLine := by rw [← Paired.length rel]; exact z
  refine call_meetsIn PySem.F.slot_dict_setdefault dd.typeIs PySem.F.entry_dict_setdefault (PySem.F.args_dict_setdefault_3 _ _ _) (sd_meets (tupleKind (mixKind X.prog X.w)) a b hd r) ⟨tupleKind_room_in1 hu, k, xs, key_of I.hok eb, dd, hz, fun p hp => ?_, fun hn h' dd' hs => ?_⟩
  · have q := rel.val k
    rw [hp] at q
    cases hv : valV kvs k with
    | none => rw [hv] at q; exact (show False from q).elim
    | some v => rw [hv] at q; exact h1 v _ _ hv (I.tok _) q
  · have q := rel.val k
    rw [hn] at q
    cases hv : valV kvs k with
    | some v => rw [hv] at q; exact (show False from q).elim
    | none =>
      refine h2 _ hv ?_
      obtain ⟨o, es, ep, ho, c1, c2, c3, _, c5⟩ := dd'
      refine d_write I (by rw [e]; exact trivial) hs ⟨o, ho⟩ ⟨by rw [List.length_append]; exact hl, hd, _, ?_, o, es, ep, ho, c1, c2, c3, c5⟩
      have r2 : KT H (kvs ++ [(k, x)]) (xs ++ [(k, b, r)]) := Paired.snoc rel ⟨rfl, eb, rx⟩
      refine r2.keeps fun c ys ec => ?_
      rw [upd_ne (ne_of ec e (fun z => nomatch z))]
      exact ec
theorem d_lenT {kvs : List (List Key × V)} {Q : Value → Shared → Prop} (I : Inv X pins σ H s) (e : H a = some (.dT kvs)) (h : ∀ t s', Inv X pins σ H s' → Q (.int kvs.length t) s') : wpAny (model X.prog X.w) A (call (.builtin "len") [.ref a]) Q E s := by
  obtain ⟨z, hd, xs, rel, o, es, ep, ho, hc, hdd, he, _⟩ := dt_of I.hok e
  refine len_raw hd ho hc hdd (by rw [size_of_entries he, ← Paired.length rel]; rw [sizeLine_eq] at z; omega) ?_
  rw [size_of_entries he, ← Paired.length rel]
  exact h _ _ (I.tok _)
end
def miT (P : Program) (w : World) : MI P w (List Nat) where
  N := fun _ l => .dT (numE keyT 0 l)
  Is := fun H y t => ∃ p, y = .ref p ∧ H p = some (.tup (vN t))
  up := fun sm ⟨p, e, h⟩ => ⟨p, e, sm p _ h⟩
  mu := fun _ _ => trivial
  notup := fun _ _ _ z => nomatch z
  new := fun {X} hP hw pos pins s σ H Q I h => by
    subst hP hw
    exact pe_dnewT pins s σ H Q I h
  len := fun {X} hP hw pins s σ H xs us Q I r h => by
    subst hP hw
    obtain ⟨a, l, rfl, ha, q⟩ := h
    obtain ⟨u, rfl, ru⟩ := vals1 r
    cases ru
    refine d_lenT I ha fun t s' I' => ⟨.int (l.length : Nat), H, I', ?_, q⟩
    rw [numE_len]
    exact ⟨t, rfl⟩
  typ := fun {X pins σ H s a l} hP hw I ha => by
    subst hP hw
    obtain ⟨t1, t2, _⟩ := isD_at I (.inr ⟨_, .inl ha⟩)
    exact ⟨t1, t2⟩
  setd := fun {X pins σ H s a l y b u r A Q E} hP hw hu I ha hy ry rr hl h1 h2 => by
    subst hP hw
    obtain ⟨p, rfl, hp⟩ := hy
    cases (show u = Value.ref p from ry)
    have e := numE_val (enc := keyT) keyT_inj b l 0
    rw [Nat.zero_add] at e
    refine d_sdT hu I ha (k := keyT b) (by rw [keyT_v]; exact hp) (by rw [numE_len]; exact hl) rr (fun v w' s' hv I' rv => ?_) fun s' hv I' => ?_
    · rw [e] at hv
      by_cases hb : b ∈ l
      · rw [if_pos hb] at hv
        cases hv
        exact h1 w' s' hb I' rv
      · rw [if_neg hb] at hv; cases hv
    · rw [e] at hv
      by_cases hb : b ∈ l
      · rw [if_pos hb] at hv; cases hv
      · refine h2 s' hb ?_
        rw [numE_snoc]
        exact I'
/-- d.setdefault(e, f), f the dict's length -/
def tSetD {P : Program} {w : World} {β : Type} [DecidableEq β] (mi : MI P w β) (td ty tx : TE) : TE := fun σ H Q => td σ H fun x H1 => ∃ a l0, x = .ref a ∧ H1 a = some (mi.N a l0) ∧ ty σ H1 fun y H2 => tx σ H2 fun z H3 => ∃ l b, H3 a = some (mi.N a l) ∧ mi.Is H3 y b ∧ z = .int (l.length : Nat) ∧ l.length < sizeLine ∧
  (b ∈ l → Q (.int (l.idxOf b : Nat)) H3) ∧ (b ∉ l → Q (.int (l.length : Nat)) (upd H3 a (mi.N a (l ++ [b]))))
theorem pe_setd {X : Cx} {β : Type} [DecidableEq β] {o e f : Expr} {apos cpos : Pos} {td ty tx : TE} (mi : MI X.prog X.w β) (hu : X.A.units + 1 < cLine) (ho : PE X o td) (he : PE X e ty) (hf : PE X f tx) (m : M2 X o "setdefault" apos e f cpos) :
    PE X (.Call (.Attribute o "setdefault" apos) [e, f] [] cpos) (tSetD mi td ty tx) := by
  intro pins s σ H Q I h
  refine wpAny_Call_method m.base m.few m.line PySem.F.plainAttrs_dict PySem.F.slot_dict_setdefault PySem.F.type_dict_setdefault (thn (ho pins s σ H _ I h) fun u s1 ⟨x, H1, I1, rx, a, l0, ex, d, q1⟩ => ?_)
  subst ex
  obtain rfl : u = Value.ref a := rx
  obtain ⟨t1, t2⟩ := mi.typ rfl rfl I1 d
  refine ⟨t1, t2, ?_⟩
  rw [m.trees]
  refine Calls.callWith_builtin rfl (Calls.evalArgs_plain (Calls.spliced_cons (thn (he pins s1 σ H1 _ I1 q1) fun iv s2 ⟨y, H2, I2, ry, q2⟩ => Calls.spliced_cons (thn (hf pins s2 σ H2 _ I2 q2) fun fv s3 ⟨z, H3, I3, rz, l, b, d3, hy, ez, hl, h1, h2⟩ => Calls.spliced_nil ?_))))
  subst ez
  exact mi.setd rfl rfl hu I3 d3 hy ry rz hl (fun w' s' hb I4 rw' => ⟨_, H3, I4, rw', h1 hb⟩) fun s' hb I4 => ⟨_, _, I4, rz, h2 hb⟩
/-! max(d.values()) -/
def View (p d : Addr) : HO := .ext fun h => h.IsValuesView p d
def tVals (td : TE) : TE := fun σ H Q => td σ H fun x H1 => ∃ d kvs, x = .ref d ∧ H1 d = some (.dT kvs) ∧ ∀ p, H1 p = none → Q (.ref p) (upd H1 p (View p d))
theorem pe_vals {X : Cx} {e : Expr} {td : TE} {apos cpos : Pos} (he : PE X e td) (hbase : attributeBase e "values" X.env (eval e X.env) = eval e X.env := by rfl) (hline : (apos.endLine == cpos.line) = true := by rfl) : PE X (.Call (.Attribute e "values" apos) [] [] cpos) (tVals td) := by
  intro pins s σ H Q I h
  refine wpAny_Call_method (T := "dict") (id := "dict.values") hbase rfl hline F.plainAttrs_dict F.slot_dict_values F.type_dict_values (thn (he pins s σ H _ I h) fun u s1 ⟨x, H1, I1, rx, d, kvs, ex, hd, q⟩ => ?_)
  subst ex
  obtain rfl : u = Value.ref d := rx
  obtain ⟨t1, t2, hs⟩ := isD_at I1 (.inr ⟨_, .inl hd⟩)
  refine ⟨t1, t2, ?_⟩
  show wpAny _ _ (callWith cpos (.builtin "dict.values") [.ref d] [] []) _ X.xe s1
  refine method_meetsIn F.slot_dict_values F.entry_dict_values rfl (PySem.evalArgs_none ⟨rfl, t1, F.args_dict_values_1 _, _, val_meets d hs, t1, ?_⟩)
  refine ⟨.ref s1.heap.objs.size, _, I1.laid (a := s1.heap.objs.size) (o := View s1.heap.objs.size d) (t' := s1.toks) (fun _ _ q => Heap.get?_push_of_some _ q) (Nat.le_refl _) ?_, rfl, q _ (I1.hok.fresh (Nat.le_refl _))⟩
  refine ⟨⟨_, Heap.get?_push_size _ rfl, rfl, rfl⟩, ⟨_, Heap.get?_push_size _ rfl⟩, ?_⟩
  rintro h1 h2 ⟨o, e, r⟩ k
  exact ⟨o, k o e, r⟩
theorem kt_vals {H : Hp} {kvs : List (List Key × V)} {xs : List (List Key × Addr × Value)} {ns : List Int} (r : KT H kvs xs) (e : kvs.map (·.2) = ns.map V.int) (i : Nat) (z : Int) (h : ns[i]? = some z) : ∃ q t, xs[i]? = some q ∧ q.2.2 = .int z t := by
  have e1 : (kvs.map (·.2))[i]? = some (V.int z) := by rw [e, List.getElem?_map, h]; rfl
  rw [List.getElem?_map] at e1
  obtain ⟨p, hp, hz⟩ := Option.map_eq_some_iff.mp e1
  obtain ⟨q, hq, _, _, rv⟩ := paired_get r hp
  rw [hz] at rv
  obtain ⟨t, ht⟩ := rv
  exact ⟨q, t, hq, ht⟩
theorem cr_maxV {X : Cx} (hc : X.calm = true) : CallR X (.builtin "max") (fun xs H Q => ∃ (p d : Addr) (kvs : List (List Key × V)) (ns : List Int), xs = [.ref p] ∧ H p = some (View p d) ∧ H d = some (.dT kvs) ∧ kvs.map (·.2) = ns.map V.int ∧ 0 < ns.length ∧ ∀ m, m ∈ ns → (∀ y ∈ ns, y ≤ m) → Q (.int m) H) := by
  intro pins s σ H vs us Q I r h
  obtain ⟨p, d, kvs, ns, rfl, hp, hd, hv, hne, q⟩ := h
  rw [Vals.ref1 r]
  obtain ⟨view, _⟩ := I.hok p _ hp
  obtain ⟨_, hs, xs, rel, o, es, ep, ho, hx, hdd, he, _⟩ := dt_of I.hok hd
  have hl : ns.length = kvs.length := by
    have z := congrArg List.length hv
    rw [List.length_map, List.length_map] at z
    exact z.symm
  refine val_max (I.ok.hd hc) view ⟨o, ho, hdd⟩ (by rw [size_of_entries he, ← Paired.length rel, hl]) (fun i x hxi => ?_) hne fun h' tk m t' hk h1 h2 => ⟨.int m, H, I.kept hk, ⟨_, rfl⟩, q m h1 h2⟩
  obtain ⟨b, t, hb, hbt⟩ := kt_vals rel hv i x hxi
  exact ⟨entryOfKey (tupleKind (mixKind X.prog X.w)) b, t, by rw [entry_at he i, hb]; rfl, hbt⟩
end Dk

/-! ### dicts by tables -/
namespace Dk
open PySem PySem.Spec PyProof.Rows L2 Mt
open PySem.W (Codec)
def dOf (D : List (List Nat)) (f : List Nat → V) : List (List Key × V) := D.map fun t => (keyT t, f t)
theorem dOf_val (f : List Nat → V) (t : List Nat) : ∀ D : List (List Nat), valV (dOf D f) (keyT t) = if t ∈ D then some (f t) else none
  | [] => by rw [if_neg List.not_mem_nil]; rfl
  | a :: D => by
    show valV ((keyT a, f a) :: dOf D f) (keyT t) = _
    by_cases h : a = t
    · subst h
      rw [valV_pos (p := (keyT a, f a)) rfl, if_pos (List.mem_cons_self ..)]
    · rw [valV_neg (p := (keyT a, f a)) (fun z => h (keyT_inj _ _ z)), dOf_val f t D]
      by_cases hb : t ∈ D
      · rw [if_pos hb, if_pos (List.mem_cons_of_mem _ hb)]
      · rw [if_neg hb, if_neg (fun z => (List.mem_cons.mp z).elim (fun y => h y.symm) hb)]
theorem dOf_congr {D : List (List Nat)} {f g : List Nat → V} (h : ∀ t ∈ D, f t = g t) : dOf D f = dOf D g := List.map_congr_left fun t ht => by rw [h t ht]
theorem dOf_put {D : List (List Nat)} {f : List Nat → V} {t : List Nat} (v : V) (ht : t ∉ D) : putK (dOf D f) (keyT t) v = dOf (D ++ [t]) (fun x => if x = t then v else f x) := by
  have e : valV (dOf D f) (keyT t) = none := by rw [dOf_val, if_neg ht]
  rw [putK_new v e]
  unfold dOf
  rw [List.map_append, List.map_cons, List.map_nil]
  dsimp only
  rw [if_pos rfl]
  congr 1
  refine List.map_congr_left fun x hx => ?_
  have hne : x ≠ t := fun z => ht (z ▸ hx)
  rw [if_neg hne]
theorem dOf_put_same {D : List (List Nat)} {f : List Nat → V} {t : List Nat} (ht : t ∉ D) : putK (dOf D f) (keyT t) (f t) = dOf (D ++ [t]) f := by
  rw [dOf_put _ ht]
  refine dOf_congr fun x _ => ?_
  by_cases h : x = t
  · rw [if_pos h, h]
  · rw [if_neg h]
theorem dOf_len (D : List (List Nat)) (f : List Nat → V) : (dOf D f).length = D.length := List.length_map _
theorem dOf_vals (D : List (List Nat)) (c : List Nat → Nat) : (dOf D fun t => .int (c t : Nat)).map (·.2) = (D.map fun t => ((c t : Nat) : Int)).map V.int := by
  unfold dOf
  rw [List.map_map, List.map_map]
  rfl
theorem dOf_get {D : List (List Nat)} {f : List Nat → V} {i : Nat} {k : List Key} {v : V} (h : (dOf D f)[i]? = some (k, v)) : ∃ t, D[i]? = some t ∧ k = keyT t ∧ v = f t := by
  unfold dOf at h
  rw [List.getElem?_map] at h
  obtain ⟨t, ht, e⟩ := Option.map_eq_some_iff.mp h
  cases e
  exact ⟨t, ht, rfl, rfl⟩
theorem nodup_new {D : List (List Nat)} (hn : D.Nodup) {i : Nat} {t : List Nat} (h : D[i]? = some t) : t ∉ D.take i := by
  intro hm
  obtain ⟨j, hj, e⟩ := List.getElem_of_mem hm
  rw [List.length_take] at hj
  rw [List.getElem_take] at e
  obtain ⟨hi, e2⟩ := List.getElem?_eq_some_iff.mp h
  have z : j = i := (List.getElem_inj hn).mp (e.trans e2.symm)
  omega
/-- what d holds at a table -/
theorem dget_t {H : Hp} {d q : Addr} {D : List (List Nat)} {f : List Nat → V} {t : List Nat} (hd : Rd H d (.dT (dOf D f))) (hq : H q = some (.tup (vN t))) (ht : t ∈ D) : DGet H d (.ref q) (some (f t)) :=
  .inr ⟨_, keyT t, q, hd, rfl, by rw [keyT_v]; exact hq, by rw [dOf_val, if_pos ht]⟩
/-- over the keys of a locked dict by tuples -/
theorem for_keysT {d : Addr} {o : Obj} {kvs : List (List Key × V)} {g : TG} {tb : TS} {Dn : Ends} {σ : L2.St} {H : Hp} (Pv : Nat → L2.St → Hp → Prop) (h0 : Pv 0 σ H) (hl : ∀ i σ H, i ≤ kvs.length → Pv i σ H → H d = some (.frz o (.dT kvs)))
    (hs : ∀ i k v q σ H, kvs[i]? = some (k, v) → Pv i σ H → H q = some (.tup (k.map kV)) → g (.ref q) σ H fun σ2 H2 => tb { Dn with nx := Pv (i + 1), ct := Pv (i + 1), bk := Dn.nx } σ2 H2) (hd : ∀ σ H, Pv kvs.length σ H → Dn.nx σ H) :
    ∃ W : Nat → Nat → L2.St → Hp → Prop, (∃ m, W 0 m σ H) ∧ ∀ i m σ H, W i m σ H →
      ((Itkt d o kvs).stop i H ∧ Dn.nx σ H) ∨ ((Itkt d o kvs).go i H ∧ ∃ N : L2.St → Hp → Prop, (∀ σ' H', N σ' H' → ∃ m', m' < m ∧ W (i + 1) m' σ' H') ∧ ∀ x H', (Itkt d o kvs).yld i H x H' → g x σ H' fun σ2 H2 => tb { Dn with nx := N, ct := N, bk := Dn.nx } σ2 H2) := by
  refine ⟨fun i m σ H => m = kvs.length - i ∧ i ≤ kvs.length ∧ Pv i σ H, ⟨kvs.length, by simp, Nat.zero_le _, h0⟩, ?_⟩
  rintro i m σ H ⟨rfl, hi, p⟩
  have q := hl i σ H hi p
  by_cases hlt : i < kvs.length
  · refine .inr ⟨⟨q, hlt⟩, Pv (i + 1), fun σ' H' p' => ⟨kvs.length - (i + 1), by omega, rfl, hlt, p'⟩, fun x H' y => ?_⟩
    obtain ⟨e, k, v, qa, hk, rfl, hq⟩ := y
    subst e
    exact hs i k v qa σ _ hk p hq
  · have e : i = kvs.length := by omega
    subst e
    exact .inl ⟨⟨q, Nat.le_refl _⟩, hd σ H p⟩
/-- unlocked again -/
theorem same_unlock {H H' : Hp} {d : Addr} {u : HO} (hd : H d = some u) (h : ∀ b o, H b = some o → b ≠ d → H' b = some o) : Same H (upd H' d u) := fun b o e => by
  by_cases hb : b = d
  · subst hb
    rw [hd] at e
    cases e
    exact upd_same
  · rw [upd_ne hb]
    exact h b o e hb
theorem sq_keep {K : PySem.W.Frag} {H H' : Hp} {a d : Addr} {xs : List V} {kvs : List (List Key × V)} (h : SqL K H a xs) (hd : H d = some (.dT kvs)) (keep : ∀ b o, H b = some o → b ≠ d → H' b = some o) : SqL K H' a xs := by
  rcases h with (h | ⟨o, h⟩) | h
  · exact .inl (.inl (keep _ _ h (ne_of h hd (fun z => nomatch z))))
  · exact .inl (.inr ⟨o, keep _ _ h (ne_of h hd (fun z => nomatch z))⟩)
  · exact .inr h
/-- the dict that tells of each table those with a letter more -/
structure Onw (H : Hp) (n k : Nat) (rs : List Nat) (d : Addr) (D : List (List Nat)) (ad : List Nat → Addr) : Prop where
  dd : H d = some (.dT (dOf D fun t => .ref (ad t)))
  ls : ∀ t ∈ D, ∃ ps : List Addr, H (ad t) = some (.lst (ps.map V.ref)) ∧ ps.length = k ∧ ∀ a p, ps[a]? = some p → H p = some (.tup (vN (longerP n k rs t a)))
theorem Onw.same {H H' : Hp} {n k : Nat} {rs : List Nat} {d : Addr} {D : List (List Nat)} {ad : List Nat → Addr} (O : Onw H n k rs d D ad) (s : Same H H') : Onw H' n k rs d D ad :=
  ⟨s _ _ O.dd, fun t ht => let ⟨ps, h1, h2, h3⟩ := O.ls t ht; ⟨ps, s _ _ h1, h2, fun a p hp => s _ _ (h3 a p hp)⟩⟩
end Dk

/-! ### the text -/
namespace Dk
open PySem PySem.Spec PyProof.Rows L2 Mt
open PySem.W (Codec)
def top (i : Nat) : Stmt := PySem.Challenge.pw_toandfrodesk_s08_count.main.body.getD i (.Pass ⟨0, 0, 0, 0⟩)
abbrev s_count : Stmt := top 10
abbrev s_empty_table : Stmt := top 11
abbrev s_longer_table : Stmt := top 12
abbrev s_crossing_state : Stmt := top 13
abbrev s_leaving_state : Stmt := top 14
abbrev s_is_taken : Stmt := top 15
abbrev s_reach_tables : Stmt := top 16
abbrev s_kinds_of_words : Stmt := top 17
abbrev s_part_kinds : Stmt := top 18
abbrev s_finer_marks : Stmt := top 19
abbrev s_number_kinds : Stmt := top 20
abbrev s_count_taken : Stmt := top 21
abbrev s_count_longer : Stmt := top 22
abbrev s_goes_right : Stmt := top 23
abbrev s_signed : Stmt := top 24
abbrev s_in_range : Stmt := top 25
abbrev s_sizes_fit : Stmt := top 26
abbrev s_rules_fit : Stmt := top 27
abbrev s_rule_fits : Stmt := top 28
abbrev s_good_fits : Stmt := top 29
/-- the scope of the one comprehension in «return all([..])» -/
def scAll (s : Stmt) : Scope := match defBody s with
  | [.Return (some (.Call _ [.ListComp _ _ sc _] _ _)) _] => sc
  | _ => { kind := .function, names := [], isGenerator := false, isCoroutine := false }
/-- the scope of the comprehension in the body's i-th row, «name = [..]» -/
def scSet (s : Stmt) (i : Nat) : Scope := match (defBody s)[i]? with
  | some (.Assign _ (.ListComp _ _ sc _) _) => sc
  | _ => { kind := .function, names := [], isGenerator := false, isCoroutine := false }
structure Txt (mg : Str → Option Value) : Prop where
  c_MOST_STATES : IsI mg "MOST_STATES" (5)
  c_MOST_LETTERS : IsI mg "MOST_LETTERS" (4)
  c_LONGEST_COUNTED : IsI mg "LONGEST_COUNTED" (1000)
  c_LEAST_MODULUS : IsI mg "LEAST_MODULUS" (2)
  c_MOST_MODULUS : IsI mg "MOST_MODULUS" (2147483647)
  c_STOP_RULE : IsI mg "STOP_RULE" (255)
  c_NEVER : IsI mg "NEVER" (255)
  c_OUT_OF_RANGE : IsI mg "OUT_OF_RANGE" (-2)
  c_NOT_AS_TOLD : IsI mg "NOT_AS_TOLD" (-3)
  b_tuple : mg "tuple" = none
  b_range : mg "range" = none
  b_len : mg "len" = none
  b_list : mg "list" = none
  b_max : mg "max" = none
  b_sum : mg "sum" = none
  b_all : mg "all" = none
  b_enumerate : mg "enumerate" = none
theorem neg_true {b : Bool} (h : (!b) = true) : b = false := by cases b with | true => cases h | false => rfl
theorem neg_false {b : Bool} (h : ¬ (!b) = true) : b = true := by cases b with | true => rfl | false => exact absurd rfl h
theorem vN_cons (x : Nat) (l : List Nat) : vN (x :: l) = .int (x : Int) :: vN l := rfl
theorem vN_append (l l' : List Nat) : vN (l ++ l') = vN l ++ vN l' := by
  unfold vN casts
  rw [List.map_append, List.map_append]
end Dk

/-! ### signed -/
namespace Dk
open PySem PySem.Spec PyProof.Rows L2 Mt
open PySem.W (Codec)
def spSigned : Sp := fun vs H Q _ => ∃ z : Int, vs = [.int z] ∧ Q (.int (Rd11Neutral.int32 z)) H
section
variable {P : Program} {w : World} {K : PySem.W.Frag} {mg : Str → Option Value} {base : Heap}
theorem scSigned : FnScope ["number"] ["number"] (defScope s_signed) := ⟨rfl, rfl, rfl, by decide +kernel, rfl, by decide +kernel, by decide +kernel⟩
theorem fn_signed (D : Df K mg "signed" s_signed) : Fn P w K mg base "signed" 1 ["number"] spSigned := by
  obtain ⟨f, fd, F, hm⟩ := D
  refine ⟨f, fd, ?_, hm, F.kp, F.binds fun _ _ _ _ _ _ us hl => match us, hl with | [_], _ => rfl⟩
  refine F.ok scSigned (fun vs H Q E h => ?_) (fun cdv A outer s H vs Q E hr h => ?_)
  · obtain ⟨z, rfl, _⟩ := h
    rfl
  · obtain ⟨z, rfl, q⟩ := h
    refine ⟨_, pss_one (ps_ret (pe_ifExp (pt_cmpR op_lt (pv 0) pe_int (nomark _)) (pv 0) (pe_op op_sub (pv 0) pe_int))), ?_⟩
    refine ⟨_, rfl, _, _, rfl, rfl, _, rfl, ?_⟩
    refine ite2 (fun c => ?_) (fun c => ?_)
    · rw [int32_lo (of_decide_eq_true c)] at q
      exact ⟨_, rfl, q⟩
    · rw [int32_hi (of_decide_eq_false (Bool.eq_false_iff.mpr c))] at q
      exact ⟨_, rfl, _, _, rfl, rfl, q⟩
end
end Dk

/-! ### in_range -/
namespace Dk
open PySem PySem.Spec PyProof.Rows L2 Mt
open PySem.W (Codec)
def spInR : Sp := fun vs H Q _ => ∃ z a b : Int, vs = [.int z, .int a, .int b] ∧ Q (.bl (Rd11.between (Rd11Neutral.int32 z) a b)) H
section
variable {P : Program} {w : World} {K : PySem.W.Frag} {mg : Str → Option Value} {base : Heap}
theorem scInR : FnScope ["number", "least", "most"] ["number", "least", "most"] (defScope s_in_range) := ⟨rfl, rfl, rfl, by decide +kernel, rfl, by decide +kernel, by decide +kernel⟩
theorem fn_inR (D : Df K mg "in_range" s_in_range) (G : Fn P w K mg base "signed" 1 ["number"] spSigned) : Fn P w K mg base "in_range" 2 ["number", "least", "most"] spInR := by
  obtain ⟨f, fd, F, hm⟩ := D
  refine ⟨f, fd, ?_, hm, F.kp, F.binds fun _ _ _ _ _ _ us hl => match us, hl with | [_, _, _], _ => rfl⟩
  refine F.ok scInR (fun vs H Q E h => ?_) (fun cdv A outer s H vs Q E hr h => ?_)
  · obtain ⟨z, a, b, rfl, _⟩ := h
    rfl
  · obtain ⟨z, a, b, rfl, q⟩ := h
    refine ⟨_, pss_one (ps_ret (pe_and (pe_cmpR op_le (pv 1) (pe_fn G hr (pa_cons (pv 0) pa_nil)) (nomark _)) (pe_one (pe_cmpR op_le (pe_fn G hr (pa_cons (pv 0) pa_nil)) (pv 2) (nomark _))))), ?_⟩
    refine ⟨_, rfl, _, rfl, z, rfl, _, _, rfl, rfl, _, rfl, ?_⟩
    unfold Rd11.between at q
    refine ite2 (fun c => ?_) (fun c => ?_)
    · rw [c, Bool.true_and] at q
      exact ⟨_, rfl, z, rfl, _, rfl, _, _, rfl, rfl, q⟩
    · rw [Bool.eq_false_iff.mpr c, Bool.false_and] at q
      exact q
end
end Dk

/-! ### sizes_fit -/
namespace Dk
open PySem PySem.Spec PyProof.Rows L2 Mt
open PySem.W (Codec)
def spSizes : Sp := fun vs H Q _ => ∃ n k : Int, vs = [.int n, .int k] ∧ Q (.bl (Rd11.sizeOk (Rd11Neutral.int32 n) (Rd11Neutral.int32 k))) H
section
variable {P : Program} {w : World} {K : PySem.W.Frag} {mg : Str → Option Value} {base : Heap}
theorem scSizes : FnScope ["n", "k"] ["n", "k"] (defScope s_sizes_fit) := ⟨rfl, rfl, rfl, by decide +kernel, rfl, by decide +kernel, by decide +kernel⟩
theorem fn_sizes (D : Df K mg "sizes_fit" s_sizes_fit) (T : Txt mg) (G : Fn P w K mg base "in_range" 2 ["number", "least", "most"] spInR) : Fn P w K mg base "sizes_fit" 3 ["n", "k"] spSizes := by
  obtain ⟨f, fd, F, hm⟩ := D
  refine ⟨f, fd, ?_, hm, F.kp, F.binds fun _ _ _ _ _ _ us hl => match us, hl with | [_, _], _ => rfl⟩
  refine F.ok scSizes (fun vs H Q E h => ?_) (fun cdv A outer s H vs Q E hr h => ?_)
  · obtain ⟨n, k, rfl, _⟩ := h
    rfl
  · obtain ⟨n, k, rfl, q⟩ := h
    refine ⟨_, pss_one (ps_ret (pe_and (pe_fn G hr (pa_cons (pv 0) (pa_cons pe_int (pa_cons (pe_gi T.c_MOST_STATES) pa_nil)))) (pe_one (pe_fn G hr (pa_cons (pv 1) (pa_cons pe_int (pa_cons (pe_gi T.c_MOST_LETTERS) pa_nil))))))), ?_⟩
    refine ⟨_, rfl, n, 1, 5, rfl, _, rfl, ?_⟩
    unfold Rd11.sizeOk at q
    refine ite2 (fun c => ?_) (fun c => ?_)
    · rw [c, Bool.true_and] at q
      exact ⟨_, rfl, k, 1, 4, rfl, q⟩
    · rw [Bool.eq_false_iff.mpr c, Bool.false_and] at q
      exact q
end
end Dk

/-! ### goes_right -/
namespace Dk
open PySem PySem.Spec PyProof.Rows L2 Mt
open PySem.W (Codec)
def spGoes : Sp := fun vs H Q _ => ∃ r : Nat, vs = [.int (r : Int)] ∧ Q (.bl (decide (r % 2 = 1))) H
section
variable {P : Program} {w : World} {K : PySem.W.Frag} {mg : Str → Option Value} {base : Heap}
theorem scGoes : FnScope ["rule"] ["rule"] (defScope s_goes_right) := ⟨rfl, rfl, rfl, by decide +kernel, rfl, by decide +kernel, by decide +kernel⟩
theorem odd_is (r : Nat) : decide (V.int ((r : Int) % 2) = V.int 1) = decide (r % 2 = 1) := by
  rw [dI]
  exact decide_eq_decide.mpr ⟨fun h => by omega, fun h => by omega⟩
theorem fn_goes (D : Df K mg "goes_right" s_goes_right) : Fn P w K mg base "goes_right" 1 ["rule"] spGoes := by
  obtain ⟨f, fd, F, hm⟩ := D
  refine ⟨f, fd, ?_, hm, F.kp, F.binds fun _ _ _ _ _ _ us hl => match us, hl with | [_], _ => rfl⟩
  refine F.ok scGoes (fun vs H Q E h => ?_) (fun cdv A outer s H vs Q E hr h => ?_)
  · obtain ⟨r, rfl, _⟩ := h
    rfl
  · obtain ⟨r, rfl, q⟩ := h
    refine ⟨_, pss_one (ps_ret (pe_cmpR op_eq (pe_op op_mod (pv 0) pe_int) pe_int (nomark _))), ?_⟩
    refine ⟨_, rfl, _, _, rfl, rfl, (by show (0 : Int) < 2; decide), rfl, ?_⟩
    rw [← odd_is] at q
    exact q
end
end Dk

/-! ### rule_fits -/
namespace Dk
open PySem PySem.Spec PyProof.Rows L2 Mt
open PySem.W (Codec)
def spRule : Sp := fun vs H Q _ => ∃ n k s r : Nat, vs = [.int (n : Int), .int (k : Int), .int (s : Int), .int (r : Int)] ∧ Q (.bl (ruleFit n k s r)) H
section
variable {P : Program} {w : World} {K : PySem.W.Frag} {mg : Str → Option Value} {base : Heap}
theorem scRule : FnScope ["n", "k", "sign", "rule"] ["n", "k", "sign", "rule"] (defScope s_rule_fits) := ⟨rfl, rfl, rfl, by decide +kernel, rfl, by decide +kernel, by decide +kernel⟩
theorem fn_rule (D : Df K mg "rule_fits" s_rule_fits) (T : Txt mg) (G : Fn P w K mg base "goes_right" 1 ["rule"] spGoes) : Fn P w K mg base "rule_fits" 2 ["n", "k", "sign", "rule"] spRule := by
  obtain ⟨f, fd, F, hm⟩ := D
  refine ⟨f, fd, ?_, hm, F.kp, F.binds fun _ _ _ _ _ _ us hl => match us, hl with | [_, _, _, _], _ => rfl⟩
  refine F.ok scRule (fun vs H Q E h => ?_) (fun cdv A outer s H vs Q E hr h => ?_)
  · obtain ⟨n, k, si, r, rfl, _⟩ := h
    rfl
  · obtain ⟨n, k, si, r, rfl, q⟩ := h
    refine ⟨_, pss_cons (ps_if (pt_cmpR op_eq (pv 3) (pe_gi T.c_STOP_RULE) (nomark _)) (pss_one (ps_ret pe_bl)) pss_nil)
      (pss_cons (ps_if (pt_cmpR op_ge (pv 3) (pe_op op_mul pe_int (pv 0)) (nomark _)) (pss_one (ps_ret pe_bl)) pss_nil)
      (pss_one (ps_ret (pe_or (pe_cmpR op_ne (pv 2) (pv 1) (nomark _)) (pe_one (pe_fn G hr (pa_cons (pv 3) pa_nil))))))), ?_⟩
    refine ⟨_, rfl, rfl, _, rfl, ?_⟩
    unfold ruleFit at q
    refine ite2 (fun c => ?_) (fun c => ?_)
    · rw [dI, decide_eq_true_eq] at c
      rw [if_pos (by omega)] at q
      exact q
    · rw [dI, decide_eq_true_eq] at c
      rw [if_neg (by omega)] at q
      refine ⟨_, rfl, _, rfl, _, _, rfl, rfl, .inl ⟨by decide, by decide⟩, _, _, rfl, rfl, _, rfl, ?_⟩
      refine ite2 (fun c2 => ?_) (fun c2 => ?_)
      · rw [decide_eq_true_eq] at c2
        rw [if_pos (by omega)] at q
        exact q
      · rw [decide_eq_true_eq] at c2
        rw [if_neg (by omega)] at q
        refine ⟨_, rfl, _, rfl, rfl, _, rfl, ?_⟩
        rw [dN]
        refine ite2 (fun c3 => ?_) (fun c3 => ?_)
        · rw [c3, Bool.true_or] at q
          exact q
        · rw [Bool.eq_false_iff.mpr c3, Bool.false_or] at q
          exact ⟨_, rfl, r, rfl, q⟩
end
end Dk

/-! ### rules_fit -/
namespace Dk
open PySem PySem.Spec PyProof.Rows L2 Mt
open PySem.W (Codec)
def spRules (K : PySem.W.Frag) : Sp := fun vs H Q _ => ∃ (n k : Nat) (a : Addr) (rs : List Nat), vs = [.int (n : Int), .int (k : Int), .ref a] ∧ SqL K H a (vN rs) ∧ rs.length ≤ 30 ∧ ∀ H', Same H H' → Q (.bl (rulesFit n k rs)) H'
theorem bkRules : BlkOk ["n", "k", "rules", "at", "rule"] (defScope s_rules_fit) (scAll s_rules_fit) [("at", 3), ("rule", 4)] := blkOk_by (by decide +kernel)
section
variable {P : Program} {w : World} {K : PySem.W.Frag} {mg : Str → Option Value} {base : Heap}
theorem scRules : FnScope ["n", "k", "rules", "at", "rule"] ["n", "k", "rules"] (defScope s_rules_fit) := ⟨rfl, rfl, rfl, by decide +kernel, rfl, by decide +kernel, by decide +kernel⟩
theorem fn_rules (D : Df K mg "rules_fit" s_rules_fit) (T : Txt mg) (G : Fn P w K mg base "rule_fits" 2 ["n", "k", "sign", "rule"] spRule) : Fn P w K mg base "rules_fit" 3 ["n", "k", "rules"] (spRules K) := by
  obtain ⟨f, fd, F, hm⟩ := D
  refine ⟨f, fd, ?_, hm, F.kp, F.binds fun _ _ _ _ _ _ us hl => match us, hl with | [_, _, _], _ => rfl⟩
  refine F.ok scRules (fun vs H Q E h => ?_) (fun cdv A outer s H vs Q E hr h => ?_)
  · obtain ⟨n, k, a, rs, rfl, _⟩ := h
    rfl
  · obtain ⟨n, k, a, rs, rfl, hS, hl, q⟩ := h
    refine ⟨_, pss_one (ps_ret (pe_callB (cr_all rfl) rfl T.b_all boot_all (pa_cons (pe_lc rfl scRules.nd (pi_enum rfl T.b_enumerate (pa_cons (pv 2) pa_nil)) bkRules
      (fun _ _ _ _ _ => pg_tupK (K0 := K) (n := 2) rfl rfl (pgs_cons (pg_name (i := 3) scRules.nd rfl (Or.inl rfl)) (pgs_cons (pg_name (i := 4) scRules.nd rfl (Or.inl rfl)) pgs_nil))) (fun _ _ _ _ _ => pts_nil)
      (fun _ _ _ _ _ => pe_fn G hr (pa_cons (pv 0) (pa_cons (pv 1) (pa_cons (pe_op op_mod (pv 3) (pe_op op_add (pv 1) pe_int)) (pa_cons (pv 4) pa_nil)))))) pa_nil))), ?_⟩
    refine ⟨_, rfl, a, _, rfl, hS, fun L hL => ?_⟩
    have s0 : Same H (upd H L (.lst [])) := same_new hL _
    refine lc_enum (K := K) (a := a) (xs := vN rs) (fun i H' => Same H H' ∧ H' L = some (.lst (((fitList n k rs).take i).map V.bl))) ⟨s0, upd_same⟩ (fun i H' _ ⟨s1, _⟩ => s1.seq hS) ?_ ?_
    · rintro i x H' T' hx ⟨s1, h1⟩ hT
      obtain ⟨r, hr1, rfl⟩ := vN_of hx
      have nT : L ≠ T' := ne_of_none h1 hT
      refine ⟨T', _, rfl, SqT.of upd_same, rfl, _, _, rfl, _, _, rfl, rfl, rfl, ?_⟩
      have em : (i : Int) % ((k : Int) + 2) = ((i % (k + 2) : Nat) : Int) := by rw [Int.natCast_emod]; rfl
      refine ⟨_, rfl, _, rfl, _, rfl, _, rfl, _, _, rfl, rfl, _, _, rfl, rfl, (by omega), _, rfl, n, k, i % (k + 2), r, (congrArg (fun z : Int => ([.int (n : Int), .int (k : Int), .int z, .int (r : Int)] : List V)) em), ?_⟩
      have hf : (fitList n k rs)[i]? = some (ruleFit n k (i % (k + 2)) r) := by rw [fit_get, hr1]; rfl
      have hi : i < rs.length := (List.getElem?_eq_some_iff.mp hr1).1
      refine ⟨_, (by rw [upd_ne nT]; exact h1), small1000 (by rw [List.length_map, List.length_take]; omega), ?_, ?_⟩
      · intro b o e
        have nb : b ≠ L := ne_of_none e hL
        rw [upd_ne nb, upd_ne (ne_of_none (s1 b o e) hT)]
        exact s1 b o e
      · rw [upd_same, take_snoc hf, List.map_append]
        rfl
    · rintro H' ⟨s1, h1⟩
      have hlen : (fitList n k rs).length = rs.length := by unfold fitList; rw [List.length_mapIdx]
      rw [vN_len, ← hlen, List.take_length] at h1
      exact ⟨L, fitList n k rs, rfl, SqL.of h1, q H' s1⟩
end
end Dk

/-! ### good_fits -/
namespace Dk
open PySem PySem.Spec PyProof.Rows L2 Mt
open PySem.W (Codec)
def spGood : Sp := fun vs H Q _ => ∃ n g : Nat, vs = [.int (n : Int), .int (g : Int)] ∧ Q (.bl (decide (g < 2 ^ n))) H
section
variable {P : Program} {w : World} {K : PySem.W.Frag} {mg : Str → Option Value} {base : Heap}
theorem scGood : FnScope ["n", "good"] ["n", "good"] (defScope s_good_fits) := ⟨rfl, rfl, rfl, by decide +kernel, rfl, by decide +kernel, by decide +kernel⟩
theorem fn_good (D : Df K mg "good_fits" s_good_fits) : Fn P w K mg base "good_fits" 1 ["n", "good"] spGood := by
  obtain ⟨f, fd, F, hm⟩ := D
  refine ⟨f, fd, ?_, hm, F.kp, F.binds fun _ _ _ _ _ _ us hl => match us, hl with | [_, _], _ => rfl⟩
  refine F.ok scGood (fun vs H Q E h => ?_) (fun cdv A outer s H vs Q E hr h => ?_)
  · obtain ⟨n, g, rfl, _⟩ := h
    rfl
  · obtain ⟨n, g, rfl, q⟩ := h
    refine ⟨_, pss_one (ps_ret (pe_cmpR op_eq (pe_op op_shr (pv 1) (pv 0)) pe_int (nomark _))), ?_⟩
    refine ⟨_, rfl, _, rfl, _, _, rfl, rfl, (by omega), rfl, ?_⟩
    rw [dI, Int.toNat_natCast, decide_eq_decide.mpr good_iff]
    exact q
end
end Dk

/-! ### crossing_state -/
namespace Dk
open PySem PySem.Spec PyProof.Rows L2 Mt
open PySem.W (Codec)
def spCross (K : PySem.W.Frag) : Sp := fun vs H Q _ => ∃ (n k s q : Nat) (a b : Addr) (rs t : List Nat), vs = [.int (n : Int), .int (k : Int), .ref a, .ref b, .int (s : Int), .int (q : Int)] ∧ SqL K H a (vN rs) ∧ H b = some (.tup (vN t)) ∧
  n ≤ 5 ∧ rs.length = n * (k + 2) ∧ rulesFit n k rs = true ∧ s < k + 2 ∧ q < n ∧ TabOk n t ∧ Q (.int (crossP k rs t s n q : Nat)) H
section
variable {P : Program} {w : World} {K : PySem.W.Frag} {mg : Str → Option Value} {base : Heap}
theorem scCross : FnScope ["n", "k", "rules", "known", "sign", "state", "visit", "rule"] ["n", "k", "rules", "known", "sign", "state"] (defScope s_crossing_state) := ⟨rfl, rfl, rfl, by decide +kernel, rfl, by decide +kernel, by decide +kernel⟩
set_option maxHeartbeats 4000000 in
theorem fn_cross (D : Df K mg "crossing_state" s_crossing_state) (T : Txt mg) (G : Fn P w K mg base "goes_right" 1 ["rule"] spGoes) : Fn P w K mg base "crossing_state" 2 ["n", "k", "rules", "known", "sign", "state"] (spCross K) := by
  obtain ⟨f, fd, F, hm⟩ := D
  refine ⟨f, fd, ?_, hm, F.kp, F.binds fun _ _ _ _ _ _ us hl => match us, hl with | [_, _, _, _, _, _], _ => rfl⟩
  refine F.ok scCross (fun vs H Q E h => ?_) (fun cdv A outer s H vs Q E hr h => ?_)
  · obtain ⟨n, k, s, q, a, b, rs, t, rfl, _⟩ := h
    rfl
  · obtain ⟨n, k, sg, q0, a, b, rs, t, rfl, hA, hB, n5, hlen, hfit, hsg, hq0, hT, q⟩ := h
    refine ⟨_, pss_cons (ps_for PassesOwn.never rfl (pi_range1 rfl T.b_range (pa_cons (pv 0) pa_nil)) (pg_name (i := 6) scCross.nd rfl (Or.inl rfl))
        (pss_cons (ps_set (i := 7) scCross.nd rfl (Or.inl rfl) (pe_ix ix_list (pv 2) (pe_op op_add (pe_op op_mul (pv 5) (pe_op op_add (pv 1) pe_int)) (pv 4)) (fun _ _ => rfl)))
        (pss_cons (ps_if (pt_cmpR op_eq (pv 7) (pe_gi T.c_STOP_RULE) (nomark _)) (pss_one (ps_ret (pe_gi T.c_NEVER))) pss_nil)
        (pss_cons (ps_set (i := 5) scCross.nd rfl (Or.inl rfl) (pe_op op_fdiv (pv 7) pe_int))
        (pss_cons (ps_if (pt_val (pe_fn G hr (pa_cons (pv 7) pa_nil))) (pss_one (ps_ret (pv 5))) pss_nil)
        (pss_cons (ps_set (i := 5) scCross.nd rfl (Or.inl rfl) (pe_ix ix_tup (pv 3) (pe_op op_add pe_int (pv 5)) (fun _ _ => rfl)))
        (pss_one (ps_if (pt_cmpR op_eq (pv 5) (pe_gi T.c_NEVER) (nomark _)) (pss_one (ps_ret (pe_gi T.c_NEVER))) pss_nil))))))))
      (pss_one (ps_ret (pe_gi T.c_NEVER))), ?_⟩
    refine ⟨_, rfl, _, rfl, (by omega), (by omega), ?_⟩
    refine for_range (lo := 0) (fun i σ H' => H' = H ∧ i ≤ n ∧ ∃ (qq : Nat) (vi rl : Option V), σ = [some (.int (n : Int)), some (.int (k : Int)), some (.ref a), some (.ref b), some (.int (sg : Int)), some (.int (qq : Int)), vi, rl] ∧ qq < n ∧ crossP k rs t sg n q0 = crossP k rs t sg (n - i) qq)
      ⟨rfl, Nat.zero_le _, q0, none, none, rfl, hq0, rfl⟩ ?_ ?_
    · rintro i σ H' hi ⟨rfl, _, qq, vi, rl, rfl, hqq, hc⟩
      rw [Int.toNat_natCast] at hi
      obtain ⟨hr1, hr2⟩ := ent_at hlen hfit hqq hsg
      obtain ⟨j, hj⟩ : ∃ j, n - i = j + 1 := ⟨n - i - 1, by omega⟩
      have hj2 : n - (i + 1) = j := by omega
      rw [hj, crossP_succ] at hc
      have ei : (qq : Int) * ((k : Int) + 2) + (sg : Int) = ((qq * (k + 2) + sg : Nat) : Int) := by
        rw [Int.natCast_add, Int.natCast_mul]
        rfl
      refine ⟨_, rfl, _, rfl, _, rfl, _, _, rfl, rfl, _, _, rfl, rfl, .inl ⟨by omega, by omega⟩, _, rfl, _, _, rfl, rfl, a, _, _, _, rfl, rfl, hA, at_of ei (vN_get hr1), ?_⟩
      generalize ent k rs sg qq = r at hr1 hr2 hc
      refine ⟨_, rfl, rfl, _, rfl, ?_⟩
      refine ite2 (fun c => ?_) (fun c => ?_)
      · rw [dI, decide_eq_true_eq] at c
        rw [if_pos (by omega)] at hc
        rw [hc] at q
        exact q
      · rw [dI, decide_eq_true_eq] at c
        rw [if_neg (by omega)] at hc
        have hlt : r < 2 * n := by omega
        have e2 : (r : Int) / 2 = ((r / 2 : Nat) : Int) := by omega
        refine ⟨_, rfl, _, _, rfl, rfl, ⟨by decide, by decide⟩, ?_⟩
        refine ⟨_, rfl, r, rfl, _, rfl, ?_⟩
        refine ite2 (fun c2 => ?_) (fun c2 => ?_)
        · rw [decide_eq_true_eq] at c2
          rw [if_pos c2] at hc
          rw [hc, ← e2] at q
          exact ⟨_, rfl, q⟩
        · rw [decide_eq_true_eq] at c2
          rw [if_neg c2] at hc
          obtain ⟨x, hx1, hx2, hx3⟩ := hT.at (i := 1 + r / 2) (by omega)
          have e3 : (1 : Int) + (r : Int) / 2 = ((1 + r / 2 : Nat) : Int) := by omega
          rw [hx2] at hc
          refine ⟨_, rfl, _, rfl, _, _, rfl, rfl, b, _, _, _, rfl, rfl, SqT.of hB, at_of e3 (vN_get hx1), ?_⟩
          refine ⟨_, rfl, rfl, _, rfl, ?_⟩
          refine ite2 (fun c3 => ?_) (fun c3 => ?_)
          · rw [dI, decide_eq_true_eq] at c3
            rw [if_pos (by omega)] at hc
            rw [hc] at q
            exact q
          · rw [dI, decide_eq_true_eq] at c3
            rw [if_neg (by omega)] at hc
            exact ⟨rfl, by omega, x, some (.int (0 + (i : Int))), some (.int (r : Int)), rfl, by omega, by rw [hj2]; exact hc⟩
    · rintro σ H' ⟨rfl, _, qq, vi, rl, rfl, hqq, hc⟩
      rw [Int.toNat_natCast, Nat.sub_self] at hc
      rw [hc] at q
      exact q
end
end Dk

/-! ### longer_table -/
namespace Dk
open PySem PySem.Spec PyProof.Rows L2 Mt
open PySem.W (Codec)
def spLonger (K : PySem.W.Frag) : Sp := fun vs H Q _ => ∃ (n k s : Nat) (a b : Addr) (rs t : List Nat), vs = [.int (n : Int), .int (k : Int), .ref a, .ref b, .int (s : Int)] ∧ SqL K H a (vN rs) ∧ H b = some (.tup (vN t)) ∧
  n ≤ 5 ∧ rs.length = n * (k + 2) ∧ rulesFit n k rs = true ∧ s < k + 2 ∧ TabOk n t ∧ ∀ (H' : Hp) (p : Addr), Same H H' → H' p = some (.tup (vN (longerP n k rs t s))) → Q (.ref p) H'
theorem bkLonger : BlkOk ["n", "k", "rules", "known", "sign", "crossings", "begin", "state"] (defScope s_longer_table) (scSet s_longer_table 0) [("state", 7)] := blkOk_by (by decide +kernel)
section
variable {P : Program} {w : World} {K : PySem.W.Frag} {mg : Str → Option Value} {base : Heap}
theorem scLonger : FnScope ["n", "k", "rules", "known", "sign", "crossings", "begin", "state"] ["n", "k", "rules", "known", "sign"] (defScope s_longer_table) := ⟨rfl, rfl, rfl, by decide +kernel, rfl, by decide +kernel, by decide +kernel⟩
set_option maxHeartbeats 4000000 in
theorem fn_longer (D : Df K mg "longer_table" s_longer_table) (T : Txt mg) (G : Fn P w K mg base "crossing_state" 2 ["n", "k", "rules", "known", "sign", "state"] (spCross K)) : Fn P w K mg base "longer_table" 3 ["n", "k", "rules", "known", "sign"] (spLonger K) := by
  obtain ⟨f, fd, F, hm⟩ := D
  refine ⟨f, fd, ?_, hm, F.kp, F.binds fun _ _ _ _ _ _ us hl => match us, hl with | [_, _, _, _, _], _ => rfl⟩
  refine F.ok scLonger (fun vs H Q E h => ?_) (fun cdv A outer s H vs Q E hr h => ?_)
  · obtain ⟨n, k, s, a, b, rs, t, rfl, _⟩ := h
    rfl
  · obtain ⟨n, k, sg, a, b, rs, t, rfl, hA, hB, n5, hlen, hfit, hsg, hT, q⟩ := h
    refine ⟨_, pss_cons (ps_setLc (i := 5) rfl scLonger.nd rfl rfl (sw_true rfl rfl rfl (by decide +kernel)) (pi_range1 rfl T.b_range (pa_cons (pv 0) pa_nil)) bkLonger
        (fun _ _ _ _ _ => pg_name (i := 7) scLonger.nd rfl (Or.inl rfl)) (fun _ _ _ _ _ => pts_nil)
        (fun _ _ _ _ _ => pe_fn G hr (pa_cons (pv 0) (pa_cons (pv 1) (pa_cons (pv 2) (pa_cons (pv 3) (pa_cons (pv 4) (pa_cons (pv 7) pa_nil))))))))
      (pss_cons (ps_set (i := 6) scLonger.nd rfl (Or.inl rfl) (pe_ix ix_tup (pv 3) pe_int (fun _ _ => rfl)))
      (pss_one (ps_ret (pe_callTy call_tuple_of rfl T.b_tuple boot_tuple (pa_cons (pe_op op_catS (pe_lst (pa_cons (pe_ifExp (pt_cmpR op_eq (pv 6) (pe_gi T.c_NEVER) (nomark _)) (pe_gi T.c_NEVER) (pe_ix ix_list (pv 5) (pv 6) (fun _ _ => rfl))) pa_nil)) (pv 5)) pa_nil))))), ?_⟩
    refine ⟨_, rfl, _, rfl, (by omega), (by omega), fun L hL => ?_⟩
    have s0 : Same H (upd H L (.lst [])) := same_new hL _
    have rl : (rowP n k rs t sg).length = n := by unfold rowP; rw [List.length_map, List.length_range]
    refine lc_range (lo := 0) (fun i H' => Same H H' ∧ H' L = some (.lst (vN ((rowP n k rs t sg).take i)))) ⟨s0, upd_same⟩ ?_ ?_
    · rintro i H' hi ⟨s1, h1⟩
      rw [Int.toNat_natCast] at hi
      refine ⟨rfl, ?_⟩
      refine ⟨_, rfl, _, rfl, _, rfl, _, rfl, _, rfl, _, rfl, n, k, sg, i, a, b, rs, t, (by rw [Int.zero_add]; rfl), s1.seq hA, s1 _ _ hB, n5, hlen, hfit, hsg, hi, hT, ?_⟩
      have hg : (rowP n k rs t sg)[i]? = some (crossP k rs t sg n i) := by
        unfold rowP
        rw [List.getElem?_map, List.getElem?_range hi]
        rfl
      refine ⟨_, h1, small1000 (by rw [vN_len, List.length_take]; omega), ?_, ?_⟩
      · intro b' o e
        rw [upd_ne (ne_of_none e hL)]
        exact s1 b' o e
      · rw [upd_same, take_snoc hg, vN_append]
        rfl
    · rintro H' ⟨s1, h1⟩
      rw [Int.toNat_natCast] at h1
      have e0 : (rowP n k rs t sg).take n = rowP n k rs t sg := by
        have z := List.take_length (l := rowP n k rs t sg)
        rw [rl] at z
        exact z
      rw [e0] at h1
      obtain ⟨x, hx1, hx2, hx3⟩ := hT.at (i := 0) (by omega)
      refine ⟨_, rfl, b, _, _, _, rfl, rfl, SqT.of (s1 _ _ hB), atI_nat (vN_get hx1), ?_⟩
      unfold longerP at q
      rw [hx2] at q
      refine ⟨_, rfl, rfl, _, rfl, ?_⟩
      refine ite2 (fun c => ?_) (fun c => ?_)
      · rw [dI, decide_eq_true_eq] at c
        rw [if_pos (by omega)] at q
        refine ⟨(by show 1 ≤ sizeLine; decide), fun p1 g1 => ?_⟩
        have n1 : L ≠ p1 := ne_of_none h1 g1
        refine ⟨_, rfl, p1, L, _, _, rfl, rfl, SqL.of upd_same, SqL.of (by rw [upd_ne n1]; exact h1), Nat.le_of_lt (small1000 (by rw [vN_len, rl]; show 1 + n ≤ 1000; omega)), fun p2 g2 => ?_⟩
        refine ⟨p2, _, rfl, .inl ⟨SqL.of upd_same, fun p3 g3 => ?_⟩⟩
        exact q _ p3 (((s1.trans (same_new g1 _)).trans (same_new g2 _)).trans (same_new g3 _)) (upd_same.trans rfl)
      · rw [dI, decide_eq_true_eq] at c
        rw [if_neg (by omega)] at q
        have hxn : x < n := by omega
        have hg : (rowP n k rs t sg)[x]? = some ((rowP n k rs t sg).getD x 255) := by
          rw [List.getD_eq_getElem?_getD, List.getElem?_eq_getElem (by rw [rl]; exact hxn)]
          rfl
        refine ⟨_, rfl, _, rfl, L, _, _, _, rfl, rfl, SqL.of h1, atI_nat (vN_get hg), ?_⟩
        refine ⟨(by show 1 ≤ sizeLine; decide), fun p1 g1 => ?_⟩
        have n1 : L ≠ p1 := ne_of_none h1 g1
        refine ⟨_, rfl, p1, L, _, _, rfl, rfl, SqL.of upd_same, SqL.of (by rw [upd_ne n1]; exact h1), Nat.le_of_lt (small1000 (by rw [vN_len, rl]; show 1 + n ≤ 1000; omega)), fun p2 g2 => ?_⟩
        refine ⟨p2, _, rfl, .inl ⟨SqL.of upd_same, fun p3 g3 => ?_⟩⟩
        exact q _ p3 (((s1.trans (same_new g1 _)).trans (same_new g2 _)).trans (same_new g3 _)) (upd_same.trans rfl)
end
end Dk

/-! ### empty_table -/
namespace Dk
open PySem PySem.Spec PyProof.Rows L2 Mt
open PySem.W (Codec)
def spEmpty (K : PySem.W.Frag) : Sp := fun vs H Q _ => ∃ (n k : Nat) (a : Addr) (rs : List Nat), vs = [.int (n : Int), .int (k : Int), .ref a] ∧ SqL K H a (vN rs) ∧ 1 ≤ n ∧ n ≤ 5 ∧ rs.length = n * (k + 2) ∧ rulesFit n k rs = true ∧
  ∀ (H' : Hp) (p : Addr), Same H H' → H' p = some (.tup (vN (emptyP n k rs))) → Q (.ref p) H'
theorem rep_one (n : Nat) : (List.replicate n [V.int 255]).flatten = vN (List.replicate n 255) := by
  induction n with
  | zero => rfl
  | succ n ih => rw [List.replicate_succ, List.flatten_cons, ih, List.replicate_succ, vN_cons]; rfl
section
variable {P : Program} {w : World} {K : PySem.W.Frag} {mg : Str → Option Value} {base : Heap}
theorem scEmpty : FnScope ["n", "k", "rules", "nothing"] ["n", "k", "rules"] (defScope s_empty_table) := ⟨rfl, rfl, rfl, by decide +kernel, rfl, by decide +kernel, by decide +kernel⟩
set_option maxHeartbeats 4000000 in
theorem fn_empty (D : Df K mg "empty_table" s_empty_table) (T : Txt mg) (G : Fn P w K mg base "longer_table" 3 ["n", "k", "rules", "known", "sign"] (spLonger K)) : Fn P w K mg base "empty_table" 4 ["n", "k", "rules"] (spEmpty K) := by
  obtain ⟨f, fd, F, hm⟩ := D
  refine ⟨f, fd, ?_, hm, F.kp, F.binds fun _ _ _ _ _ _ us hl => match us, hl with | [_, _, _], _ => rfl⟩
  refine F.ok scEmpty (fun vs H Q E h => ?_) (fun cdv A outer s H vs Q E hr h => ?_)
  · obtain ⟨n, k, a, rs, rfl, _⟩ := h
    rfl
  · obtain ⟨n, k, a, rs, rfl, hA, n1, n5, hlen, hfit, q⟩ := h
    refine ⟨_, pss_cons (ps_set (i := 3) scEmpty.nd rfl (Or.inl rfl) (pe_callTy call_tuple_of rfl T.b_tuple boot_tuple (pa_cons (pe_op op_catS (pe_lst (pa_cons pe_int pa_nil)) (pe_op op_rep (pe_lst (pa_cons (pe_gi T.c_NEVER) pa_nil)) (pv 0))) pa_nil)))
      (pss_one (ps_ret (pe_fn G hr (pa_cons (pv 0) (pa_cons (pv 1) (pa_cons (pv 2) (pa_cons (pv 3) (pa_cons (pv 1) pa_nil)))))))), ?_⟩
    refine ⟨(by show 1 ≤ sizeLine; decide), fun p1 g1 => ?_⟩
    refine ⟨(by show 1 ≤ sizeLine; decide), fun p2 g2 => ?_⟩
    have n12 : p1 ≠ p2 := ne_of_none upd_same g2
    refine ⟨_, rfl, p2, _, _, rfl, rfl, upd_same, (by omega), (by omega), Nat.le_of_lt (small1000 (by rw [Int.toNat_natCast]; show 1 * n ≤ 1000; omega)), fun p3 g3 => ?_⟩
    have n13 : p1 ≠ p3 := ne_of_none (by rw [upd_ne n12]; exact upd_same) g3
    refine ⟨p1, p3, _, _, rfl, rfl, SqL.of (by rw [upd_ne n13, upd_ne n12]; exact upd_same), SqL.of upd_same, Nat.le_of_lt (small1000 (by rw [Int.toNat_natCast, rep_one, vN_len, List.length_replicate]; show 1 + n ≤ 1000; omega)), fun p4 g4 => ?_⟩
    refine ⟨p4, _, rfl, .inl ⟨SqL.of upd_same, fun p5 g5 => ?_⟩⟩
    have s5 := ((((same_new g1 (.lst [V.int 0])).trans (same_new g2 (.lst [V.int 255]))).trans (same_new g3 _)).trans (same_new g4 _)).trans (same_new g5 (.tup ([V.int 0] ++ (List.replicate (n : Int).toNat [V.int 255]).flatten)))
    refine gen_heap (R := fun H5 => Same H H5 ∧ H5 p5 = some (.tup (vN (nothingP n)))) ⟨s5, upd_same.trans (by rw [Int.toNat_natCast, rep_one]; rfl)⟩ fun H5 hh => ?_
    obtain ⟨s6, h6⟩ := hh
    refine ⟨_, rfl, _, rfl, _, rfl, _, rfl, _, rfl, n, k, k, a, p5, rs, nothingP n, rfl, s6.seq hA, h6, n5, hlen, hfit, (by omega), nothing_ok n1, fun H' p s7 h7 => ?_⟩
    exact q H' p (s6.trans s7) h7
end
end Dk

/-! ### leaving_state -/
namespace Dk
open PySem PySem.Spec PyProof.Rows L2 Mt
open PySem.W (Codec)
def spLeaving (K : PySem.W.Frag) : Sp := fun vs H Q _ => ∃ (n k : Nat) (a b : Addr) (rs t : List Nat), vs = [.int (n : Int), .int (k : Int), .ref a, .ref b] ∧ SqL K H a (vN rs) ∧ H b = some (.tup (vN t)) ∧ MOk n k rs ∧ TabOk n t ∧
  ∀ H', Same H H' → Q (.int ((longerP n k rs t (k + 1)).getD 0 255 : Nat)) H'
section
variable {P : Program} {w : World} {K : PySem.W.Frag} {mg : Str → Option Value} {base : Heap}
theorem scLeaving : FnScope ["n", "k", "rules", "known"] ["n", "k", "rules", "known"] (defScope s_leaving_state) := ⟨rfl, rfl, rfl, by decide +kernel, rfl, by decide +kernel, by decide +kernel⟩
set_option maxHeartbeats 4000000 in
theorem fn_leaving (D : Df K mg "leaving_state" s_leaving_state) (T : Txt mg) (G : Fn P w K mg base "longer_table" 3 ["n", "k", "rules", "known", "sign"] (spLonger K)) : Fn P w K mg base "leaving_state" 4 ["n", "k", "rules", "known"] (spLeaving K) := by
  obtain ⟨f, fd, F, hm⟩ := D
  refine ⟨f, fd, ?_, hm, F.kp, F.binds fun _ _ _ _ _ _ us hl => match us, hl with | [_, _, _, _], _ => rfl⟩
  refine F.ok scLeaving (fun vs H Q E h => ?_) (fun cdv A outer s H vs Q E hr h => ?_)
  · obtain ⟨n, k, a, b, rs, t, rfl, _⟩ := h
    rfl
  · obtain ⟨n, k, a, b, rs, t, rfl, hA, hB, M, hT, q⟩ := h
    refine ⟨_, pss_one (ps_ret (pe_ix ix_tup (pe_fn G hr (pa_cons (pv 0) (pa_cons (pv 1) (pa_cons (pv 2) (pa_cons (pv 3) (pa_cons (pe_op op_add (pv 1) pe_int) pa_nil)))))) pe_int (fun _ _ => rfl))), ?_⟩
    refine ⟨_, rfl, _, rfl, _, rfl, _, rfl, _, rfl, _, _, rfl, rfl, n, k, k + 1, a, b, rs, t, rfl, hA, hB, M.hn, M.hl, M.hf, (by omega), hT, fun H1 p s1 h1 => ?_⟩
    have hx : (longerP n k rs t (k + 1))[0]? = some ((longerP n k rs t (k + 1)).getD 0 255) := rfl
    exact ⟨p, _, _, _, rfl, rfl, SqT.of h1, atI_nat (vN_get hx), q H1 s1⟩
end
end Dk

/-! ### is_taken -/
namespace Dk
open PySem PySem.Spec PyProof.Rows L2 Mt
open PySem.W (Codec)
def spTaken (K : PySem.W.Frag) : Sp := fun vs H Q _ => ∃ (n k g : Nat) (a b : Addr) (rs t : List Nat), vs = [.int (n : Int), .int (k : Int), .int (g : Int), .ref a, .ref b] ∧ SqL K H a (vN rs) ∧ H b = some (.tup (vN t)) ∧ MOk n k rs ∧ TabOk n t ∧
  ∀ H', Same H H' → Q (.bl (takenP n k g rs t)) H'
section
variable {P : Program} {w : World} {K : PySem.W.Frag} {mg : Str → Option Value} {base : Heap}
theorem scTaken : FnScope ["n", "k", "good", "rules", "known", "state"] ["n", "k", "good", "rules", "known"] (defScope s_is_taken) := ⟨rfl, rfl, rfl, by decide +kernel, rfl, by decide +kernel, by decide +kernel⟩
set_option maxHeartbeats 4000000 in
theorem fn_taken (D : Df K mg "is_taken" s_is_taken) (T : Txt mg) (G : Fn P w K mg base "leaving_state" 4 ["n", "k", "rules", "known"] (spLeaving K)) : Fn P w K mg base "is_taken" 5 ["n", "k", "good", "rules", "known"] (spTaken K) := by
  obtain ⟨f, fd, F, hm⟩ := D
  refine ⟨f, fd, ?_, hm, F.kp, F.binds fun _ _ _ _ _ _ us hl => match us, hl with | [_, _, _, _, _], _ => rfl⟩
  refine F.ok scTaken (fun vs H Q E h => ?_) (fun cdv A outer s H vs Q E hr h => ?_)
  · obtain ⟨n, k, g, a, b, rs, t, rfl, _⟩ := h
    rfl
  · obtain ⟨n, k, g, a, b, rs, t, rfl, hA, hB, M, hT, q⟩ := h
    refine ⟨_, pss_cons (ps_set (i := 5) scTaken.nd rfl (Or.inl rfl) (pe_fn G hr (pa_cons (pv 0) (pa_cons (pv 1) (pa_cons (pv 3) (pa_cons (pv 4) pa_nil))))))
      (pss_one (ps_ret (pe_and (pe_cmpR op_ne (pv 5) (pe_gi T.c_NEVER) (nomark _)) (pe_one (pe_cmpR op_eq (pe_op op_and (pe_op op_shr (pv 2) (pv 5)) pe_int) pe_int (nomark _)))))), ?_⟩
    refine ⟨_, rfl, _, rfl, _, rfl, _, rfl, n, k, a, b, rs, t, rfl, hA, hB, M, hT, fun H1 s1 => ?_⟩
    unfold takenP at q
    generalize (longerP n k rs t (k + 1)).getD 0 255 = x at q ⊢
    have q := q H1 s1
    refine ⟨_, rfl, rfl, _, rfl, ?_⟩
    have ed : decide (V.int (x : Int) = V.int 255) = decide (x = 255) := dN x 255
    refine ite2 (fun c => ?_) (fun c => ?_)
    · rw [ed] at c
      rw [c, Bool.true_and] at q
      refine ⟨_, rfl, _, rfl, _, _, rfl, rfl, (by omega), _, _, rfl, rfl, rfl, ?_⟩
      have ev : Builtin.bitAnd ((g : Int) / 2 ^ (x : Int).toNat) 1 = if g.testBit x = true then 1 else 0 := by
        rw [bitAnd_m1, Int.toNat_natCast]
        exact bit_of
      have ev2 : decide (V.int (Builtin.bitAnd ((g : Int) / 2 ^ (x : Int).toNat) 1) = V.int 1) = g.testBit x := by
        rw [dI, ev]
        cases g.testBit x <;> rfl
      rw [← ev2] at q
      exact q
    · rw [ed] at c
      rw [Bool.eq_false_iff.mpr c, Bool.false_and] at q
      exact q
end
end Dk

/-! ### reach_tables -/
namespace Dk
open PySem PySem.Spec PyProof.Rows L2 Mt
open PySem.W (Codec)
def spReach (K : PySem.W.Frag) : Sp := fun vs H Q _ => ∃ (n k g : Nat) (a : Addr) (rs : List Nat), vs = [.int (n : Int), .int (k : Int), .ref a] ∧ SqL K H a (vN rs) ∧ MOk n k rs ∧ 0 < k ∧ k ≤ 4 ∧
  ∀ (H' : Hp) (d : Addr) (l : List Rd11.Kind) (ad : List Nat → Addr), Same H H' → Onw H' n k rs d (l.map (·.2)) ad → AllK k (shT ⟨n, k, rs, g⟩) l → Q (.ref d) H'
def scReachC (s : Stmt) : Scope := match ((defBody s)[2]? : Option Stmt) with
  | some (.While _ [_, .For _ _ [.If _ [.Assign _ (.ListComp _ _ sc _) _, _] _ _] _ _, _] _ _) => sc
  | _ => { kind := .function, names := [], isGenerator := false, isCoroutine := false }
theorem bkReach : BlkOk ["n", "k", "rules", "onward", "waiting", "longer", "known", "letter"] (defScope s_reach_tables) (scReachC s_reach_tables) [("letter", 7)] := blkOk_by (by decide +kernel)
/-- tables of words, at their places -/
def Pts (H : Hp) (t : Rd11.Word → List Nat) (ps : List Addr) (ws : List Rd11.Word) : Prop := ps.length = ws.length ∧ ∀ (i : Nat) (p : Addr) (w : Rd11.Word), ps[i]? = some p → ws[i]? = some w → H p = some (.tup (vN (t w)))
theorem Pts.up {H H' : Hp} {t : Rd11.Word → List Nat} {ps : List Addr} {ws : List Rd11.Word} (h : Pts H t ps ws) (k : ∀ b xs, H b = some (.tup xs) → H' b = some (.tup xs)) : Pts H' t ps ws := ⟨h.1, fun i p w h1 h2 => k _ _ (h.2 i p w h1 h2)⟩
theorem Pts.app {H : Hp} {t : Rd11.Word → List Nat} {ps qs : List Addr} {ws vs : List Rd11.Word} (h : Pts H t ps ws) (h' : Pts H t qs vs) : Pts H t (ps ++ qs) (ws ++ vs) := by
  refine ⟨by rw [List.length_append, List.length_append, h.1, h'.1], fun i p w h1 h2 => ?_⟩
  by_cases hi : i < ps.length
  · rw [List.getElem?_append_left hi] at h1
    rw [List.getElem?_append_left (by rw [← h.1]; exact hi)] at h2
    exact h.2 i p w h1 h2
  · rw [List.getElem?_append_right (by omega)] at h1
    rw [List.getElem?_append_right (by rw [← h.1]; omega)] at h2
    rw [← h.1] at h2
    exact h'.2 _ p w h1 h2
theorem few_tabs {n k g : Nat} {rs : List Nat} (M : MOk n k rs) {D : List (List Nat)} (h1 : D.Nodup) (h2 : ∀ t ∈ D, ∃ u : Rd11.Word, t = shT ⟨n, k, rs, g⟩ u) : D.length ≤ 46656 := by
  have z := tabs_few (n := n) h1 fun t ht => by
    obtain ⟨u, rfl⟩ := h2 t ht
    exact shT_ok ⟨n, k, rs, g⟩ u
  have hn := M.hn
  have y : (n + 1) ^ (n + 1) ≤ 6 ^ 6 := Nat.le_trans (Nat.pow_le_pow_left (by omega) _) (Nat.pow_le_pow_right (by omega) (by omega))
  exact Nat.le_trans z y
theorem few_all {n k g : Nat} {rs : List Nat} (M : MOk n k rs) {l : List Rd11.Kind} (A : AllK k (shT ⟨n, k, rs, g⟩) l) : l.length ≤ 46656 := by
  have z := few_tabs (g := g) M A.nd fun t ht => by
    obtain ⟨y, hy, rfl⟩ := List.mem_map.mp ht
    exact ⟨y.1, (A.ks.tab y hy).1⟩
  rw [List.length_map] at z
  exact z
theorem kw_few {n k g : Nat} {rs : List Nat} (M : MOk n k rs) {l : List Rd11.Kind} {s : List Rd11.Kind × List Rd11.Kind} (W : Kw k (shT ⟨n, k, rs, g⟩) l s) : s.1.length ≤ 46656 := by
  have z := few_tabs (g := g) M W.nd fun t ht => by
    obtain ⟨y, hy, rfl⟩ := List.mem_map.mp ht
    exact ⟨y.1, (W.tab y hy).1⟩
  rw [List.length_map] at z
  exact z
/-- what is true at the head of each round -/
structure RI (H : Hp) (n k g : Nat) (rs : List Nat) (d wl : Addr) (l : List Rd11.Kind) (cs : List Rd11.Word) (ad : List Nat → Addr) (ps : List Addr) : Prop where
  on : Onw H n k rs d (l.map (·.2)) ad
  wt : H wl = some (.lst (ps.map V.ref))
  pt : Pts H (shT ⟨n, k, rs, g⟩) ps cs
  rd : Rnd k (shT ⟨n, k, rs, g⟩) l cs
section
variable {P : Program} {w : World} {K : PySem.W.Frag} {mg : Str → Option Value} {base : Heap}
theorem scReach : FnScope ["n", "k", "rules", "onward", "waiting", "longer", "known", "letter"] ["n", "k", "rules"] (defScope s_reach_tables) := ⟨rfl, rfl, rfl, by decide +kernel, rfl, by decide +kernel, by decide +kernel⟩
set_option maxHeartbeats 8000000 in
theorem fn_reach (D : Df K mg "reach_tables" s_reach_tables) (T : Txt mg) (FE : Fn P w K mg base "empty_table" 4 ["n", "k", "rules"] (spEmpty K)) (G : Fn P w K mg base "longer_table" 4 ["n", "k", "rules", "known", "sign"] (spLonger K)) : Fn P w K mg base "reach_tables" 5 ["n", "k", "rules"] (spReach K) := by
  obtain ⟨f, fd, F, hm⟩ := D
  refine ⟨f, fd, ?_, hm, F.kp, F.binds fun _ _ _ _ _ _ us hl => match us, hl with | [_, _, _], _ => rfl⟩
  refine F.ok scReach (fun vs H Q E h => ?_) (fun cdv A outer s H vs Q E hr h => ?_)
  · obtain ⟨n, k, g, a, rs, rfl, _⟩ := h
    rfl
  · obtain ⟨n, k, g, a, rs, rfl, hA, M, k0, k4, q⟩ := h
    have hu := hu_of hr
    refine ⟨_, pss_cons (ps_set (i := 3) scReach.nd rfl (Or.inl rfl) pe_dnewT)
      (pss_cons (ps_set (i := 4) scReach.nd rfl (Or.inl rfl) (pe_lst (pa_cons (pe_fn FE hr (pa_cons (pv 0) (pa_cons (pv 1) (pa_cons (pv 2) pa_nil)))) pa_nil)))
      (pss_cons (ps_while PassesOwn.never (pt_cmpR op_gt (pe_callB call_len_seq rfl T.b_len PySem.boot_len (pa_cons (pv 4) pa_nil)) pe_int (nomark _))
        (pss_cons (ps_set (i := 5) scReach.nd rfl (Or.inl rfl) (pe_lst pa_nil))
        (pss_cons (ps_for PassesOwn.never rfl (pi_list (pv 4)) (pg_name (i := 6) scReach.nd rfl (Or.inr rfl))
          (pss_one (ps_if (pt_cmp (pc_dnotin hu (pv 6) (pv 3)))
            (pss_cons (ps_dput hu (pv 3) (pv 6) (pe_lc rfl scReach.nd (pi_range1 rfl T.b_range (pa_cons (pv 1) pa_nil)) bkReach (fun _ _ _ _ _ => pg_name (i := 7) scReach.nd rfl (Or.inl rfl)) (fun _ _ _ _ _ => pts_nil)
                (fun _ _ _ _ _ => pe_fn G hr (pa_cons (pv 0) (pa_cons (pv 1) (pa_cons (pv 2) (pa_cons (pv 6) (pa_cons (pv 7) pa_nil))))))) rfl)
            (pss_one (ps_expr (pe_bm PySem.F.plainAttrs_list PySem.F.slot_list_extend PySem.F.type_list_extend mt_extend (pv 5) (pa_cons (pe_dget hu (pv 3) (pv 6) (fun _ _ => rfl)) pa_nil)))))
            pss_nil)))
        (pss_one (ps_set (i := 4) scReach.nd rfl (Or.inl rfl) (pv 5))))))
      (pss_one (ps_ret (pv 3))))), ?_⟩
    have cong := fun u v b (hb : b < k) => shT_cong (g := g) M u v b hb
    have e0 : emptyP n k rs = shT ⟨n, k, rs, g⟩ [] := empty_is M.h0 M.hn M.hl M.hf
    -- onward = {}; waiting = [empty_table(..)]
    refine fun d hd => ?_
    have s0 : Same H (upd H d (.dT [])) := same_new hd _
    refine ⟨_, rfl, _, rfl, _, rfl, n, k, a, rs, rfl, s0.seq hA, M.h0, M.hn, M.hl, M.hf, fun H1 p0 s1 h1 => ?_⟩
    refine ⟨(by show 1 ≤ sizeLine; decide), fun wl hwl => ?_⟩
    have d1 : H1 d = some (.dT []) := s1 _ _ upd_same
    have nwd : d ≠ wl := ne_of_none d1 hwl
    have npw : p0 ≠ wl := ne_of_none h1 hwl
    have sH : ∀ b o, H b = some o → b ≠ d := fun b o e => ne_of_none e hd
    have s2 : Same H (upd H1 wl (.lst [.ref p0])) := (s0.trans s1).trans (same_new hwl _)
    have start : RI (upd H1 wl (.lst [.ref p0])) n k g rs d wl [] [[]] (fun _ => 0) [p0] := by
      refine ⟨⟨by rw [upd_ne nwd]; exact d1, fun t ht => absurd ht List.not_mem_nil⟩, upd_same, ⟨rfl, fun i p v h1' h2' => ?_⟩, .start⟩
      cases i with
      | zero =>
        cases Option.some.inj h1'
        cases Option.some.inj h2'
        rw [upd_ne npw, h1, e0]
      | succ i => cases h1'
    refine ⟨fun m σ H' => Same H H' ∧ ∃ l cs ad ps wl lg kn lt, σ = [some (.int (n : Int)), some (.int (k : Int)), some (.ref a), some (.ref d), some (.ref wl), lg, kn, lt] ∧ RI H' n k g rs d wl l cs ad ps ∧ m = 46656 - l.length + min ps.length 1,
      ⟨_, s2, [], [[]], _, _, wl, none, none, none, rfl, start, rfl⟩, ?_⟩
    clear start s2 npw nwd hwl wl d1
    rintro m σ H' ⟨s3, l, cs, ad, ps, wl, lg, kn, lt, rfl, R, rfl⟩
    have hlf : l.length ≤ 46656 := kw_few M R.rd.kw
    -- len(waiting) > 0
    refine ⟨_, rfl, wl, _, rfl, .inl (SqL.of R.wt), _, _, rfl, rfl, _, rfl, ?_⟩
    rw [List.length_map]
    refine ite2 (fun c => ?_) (fun c => ?_)
    · rw [decide_eq_true_eq] at c
      have hpl : 0 < ps.length := by omega
      refine ⟨fun σ' H' => Same H H' ∧ ∃ l' cs' ad' ps' wl' lg kn lt, σ' = [some (.int (n : Int)), some (.int (k : Int)), some (.ref a), some (.ref d), some (.ref wl'), lg, kn, lt] ∧ RI H' n k g rs d wl' l' cs' ad' ps' ∧ 46656 - l'.length + min ps'.length 1 < 46656 - l.length + min ps.length 1,
        fun σ' H' ⟨s4, l', cs', ad', ps', wl', lg', kn', lt', e, R', hlt⟩ => ⟨_, hlt, s4, l', cs', ad', ps', wl', lg', kn', lt', e, R', rfl⟩, ?_⟩
      -- longer = []
      refine ⟨(by show 0 ≤ sizeLine; decide), fun lo hlo => ?_⟩
      have nlo : ∀ {b o}, H' b = some o → b ≠ lo := fun e => ne_of_none e hlo
      have s4 : Same H' (upd H' lo (.lst [])) := same_new hlo _
      have ndl : d ≠ lo := nlo R.on.dd
      have nwd : wl ≠ d := ne_of R.wt R.on.dd (fun z => nomatch z)
      -- for known in waiting
      refine ⟨_, rfl, wl, rfl, ⟨_, SqL.of (s4 _ _ R.wt)⟩, ?_⟩
      refine for_list (K := K) (xs := ps.map V.ref) (fun i σ H3 => ∃ ad qs kn lt, σ = [some (.int (n : Int)), some (.int (k : Int)), some (.ref a), some (.ref d), some (.ref wl), some (.ref lo), kn, lt] ∧
          Kw k (shT ⟨n, k, rs, g⟩) l ((cs.take i).foldl (addK (shT ⟨n, k, rs, g⟩)) (l, [])) ∧ Onw H3 n k rs d (((cs.take i).foldl (addK (shT ⟨n, k, rs, g⟩)) (l, [])).1.map (·.2)) ad ∧ (∀ t ∈ ((cs.take i).foldl (addK (shT ⟨n, k, rs, g⟩)) (l, [])).1.map (·.2), ad t ≠ lo) ∧
          H3 lo = some (.lst (qs.map V.ref)) ∧ Pts H3 (shT ⟨n, k, rs, g⟩) qs (heirs k ((cs.take i).foldl (addK (shT ⟨n, k, rs, g⟩)) (l, [])).2) ∧ ∀ b o, H' b = some o → b ≠ d → b ≠ lo → H3 b = some o)
        ⟨ad, [], kn, lt, rfl, R.rd.kw, R.on.same s4, fun t ht => ?_, upd_same, ⟨rfl, fun i p w h _ => by simp at h⟩, fun b o e _ h2 => by rw [upd_ne h2]; exact e⟩
        (fun i σ H3 _ ⟨_, _, _, _, _, _, _, _, _, _, kp⟩ => SqL.of (kp _ _ R.wt nwd (nlo R.wt))) ?_ ?_
      · obtain ⟨_, e, _⟩ := R.on.ls t ht
        exact nlo e
      · rintro i x σ H3 hx ⟨ad, qs, kn, lt, rfl, W, O, aw, hlo3, Q3, kp⟩
        rw [List.getElem?_map] at hx
        obtain ⟨p, hp, rfl⟩ := Option.map_eq_some_iff.mp hx
        have hi : i < cs.length := by rw [← R.pt.1]; exact (List.getElem?_eq_some_iff.mp hp).1
        have hw : cs[i]? = some cs[i] := List.getElem?_eq_getElem hi
        generalize cs[i] = u at hw
        have hp' := R.pt.2 i p u hp hw
        have hpx : H3 p = some (.tup (vN (shT ⟨n, k, rs, g⟩ u))) := kp _ _ hp' (ne_of hp' R.on.dd (fun z => nomatch z)) (nlo hp')
        have lu : Rd11.letters k u = true := R.rd.lets u (List.mem_of_getElem? hw)
        rw [take_snoc hw, List.foldl_append, List.foldl_cons, List.foldl_nil]
        generalize hs : (cs.take i).foldl (addK (shT ⟨n, k, rs, g⟩)) (l, []) = s at W O aw Q3
        have hsf := kw_few M W
        have s2f : s.2.length ≤ 46656 := by have z := congrArg List.length W.app; rw [List.length_append] at z; omega
        generalize ht : shT ⟨n, k, rs, g⟩ u = t at hpx
        have tok : TabOk n t := by rw [← ht]; exact shT_ok ⟨n, k, rs, g⟩ u
        -- if known not in onward
        refine ⟨_, rfl, _, rfl, d, _, rfl, .inr ⟨_, keyT t, p, .inl O.dd, rfl, by rw [keyT_v]; exact hpx, rfl⟩, _, rfl, ?_⟩
        rw [dOf_val]
        by_cases htD : t ∈ s.1.map (·.2)
        · rw [if_pos htD]
          refine iteF ?_
          rw [addK_old (by rw [ht]; exact htD)]
          exact ⟨ad, qs, some (.ref p), lt, rfl, W, O, aw, hlo3, Q3, kp⟩
        · rw [if_neg htD]
          refine iteT ?_
          rw [addK_new (by rw [ht]; exact htD), ht]
          -- onward[known] = [longer_table(..) for letter in range(k)]
          refine ⟨_, rfl, _, rfl, (by omega), (by omega), fun L hL => ?_⟩
          have nLd : d ≠ L := ne_of_none O.dd hL
          have nLo : lo ≠ L := ne_of_none hlo3 hL
          refine lc_range (lo := 0) (fun i H4 => Same H3 H4 ∧ ∃ ps : List Addr, ps.length = i ∧ H4 L = some (.lst (ps.map V.ref)) ∧ ∀ a p, ps[a]? = some p → H4 p = some (.tup (vN (longerP n k rs t a)))) ⟨same_new hL _, [], rfl, upd_same, fun a p h => by simp at h⟩ ?_ ?_
          · rintro i H4 hi ⟨s5, ps, hps, hL3, hpp⟩
            rw [Int.toNat_natCast] at hi
            refine ⟨rfl, ?_⟩
            have hA4 : SqL K H4 a (vN rs) := by
              have z := s3.seq hA
              rcases z with (z | ⟨o, z⟩) | z
              · exact .inl (.inl (s5 _ _ (kp _ _ z (ne_of z R.on.dd (fun y => nomatch y)) (nlo z))))
              · exact .inl (.inr ⟨o, s5 _ _ (kp _ _ z (ne_of z R.on.dd (fun y => nomatch y)) (nlo z))⟩)
              · exact .inr z
            refine ⟨_, rfl, _, rfl, _, rfl, _, rfl, _, rfl, n, k, i, a, p, rs, t, (by rw [Int.zero_add]; rfl), hA4, s5 _ _ hpx, M.hn, M.hl, M.hf, (by omega), tok, fun H5 p4 s6 h4 => ?_⟩
            refine ⟨_, s6 _ _ hL3, small1000 (by rw [List.length_map]; omega), ?_, ps ++ [p4], by rw [List.length_append, hps]; rfl, by rw [upd_same, List.map_append]; rfl, fun b pb hb => ?_⟩
            · intro b o e
              rw [upd_ne (ne_of_none e hL)]
              exact s6 _ _ (s5 b o e)
            · by_cases hbi : b < ps.length
              · rw [List.getElem?_append_left hbi] at hb
                have z := s6 _ _ (hpp b pb hb)
                rw [upd_ne (ne_of z (s6 _ _ hL3) (fun z => nomatch z))]
                exact z
              · rw [List.getElem?_append_right (by omega)] at hb
                have z := (List.getElem?_eq_some_iff.mp hb).1
                have z' : b - ps.length < 1 := z
                have e : b = i := by omega
                rw [e, hps, Nat.sub_self] at hb
                have e2 : p4 = pb := Option.some.inj hb
                rw [← e2, e, upd_ne (ne_of h4 (s6 _ _ hL3) (fun z => nomatch z))]
                exact h4
          · rintro H4 ⟨s5, ls, hls, hL4, hpp⟩
            rw [Int.toNat_natCast] at hls
            have d4 := s5 _ _ O.dd
            have lo4 := s5 _ _ hlo3
            have hp4 := s5 _ _ hpx
            refine ⟨_, rfl, _, rfl, d, _, rfl, DPut.t (k := keyT t) d4 (by rw [keyT_v]; exact hp4) (by rw [dOf_len, List.length_map, sizeLine_eq]; omega), ?_⟩
            rw [dOf_put _ htD]
            generalize hH5 : upd H4 d _ = H5
            have k5 : ∀ b, b ≠ d → H5 b = H4 b := fun b hb => by rw [← hH5, upd_ne hb]
            have d5 : H5 d = some (.dT (dOf (s.1.map (·.2) ++ [t]) fun x => if x = t then .ref L else .ref (ad x))) := by rw [← hH5, upd_same]
            have hL5 : H5 L = some (.lst (ls.map V.ref)) := by rw [k5 L (Ne.symm nLd)]; exact hL4
            have lo5 : H5 lo = some (.lst (qs.map V.ref)) := by rw [k5 lo (Ne.symm ndl)]; exact lo4
            have tups5 : ∀ b xs, H4 b = some (.tup xs) → H5 b = some (.tup xs) := fun b xs e => by rw [k5 b (ne_of e d4 (fun z => nomatch z))]; exact e
            have hp5 := tups5 _ _ hp4
            have qlen : qs.length = s.2.length * k := by rw [Q3.1, heirs_len]
            have qle : s.2.length * k ≤ 46656 * 4 := Nat.mul_le_mul s2f k4
            -- longer.extend(onward[known])
            refine ⟨_, rfl, .inl ⟨rfl, _, SqL.of lo5⟩, _, rfl, _, rfl, d, .ref L, rfl, ?_, lo, L, _, _, rfl, rfl, lo5, hL5, (by rw [List.length_map, List.length_map, hls, sizeLine_eq]; omega), ?_⟩
            · have z := dget_t (f := fun x => if x = t then V.ref L else V.ref (ad x)) (.inl d5) hp5 (List.mem_append_right _ (List.mem_singleton.mpr rfl))
              rw [if_pos rfl] at z
              exact z
            have k6 : ∀ b, b ≠ lo → upd H5 lo (.lst (qs.map V.ref ++ ls.map V.ref)) b = H5 b := fun b hb => upd_ne hb
            have tups6 : ∀ b xs, H5 b = some (.tup xs) → upd H5 lo (.lst (qs.map V.ref ++ ls.map V.ref)) b = some (.tup xs) := fun b xs e => by rw [k6 b (ne_of e lo5 (fun z => nomatch z))]; exact e
            have em : (s.1 ++ [(u, t)]).map (·.2) = s.1.map (·.2) ++ [t] := by rw [List.map_append]; rfl
            refine ⟨fun x => if x = t then L else ad x, qs ++ ls, some (.ref p), lt, rfl, ?_, ?_, ?_, ?_, ?_, fun b o e h1 h2 => ?_⟩
            · have z := W.more lu (by rw [ht]; exact htD)
              rw [ht] at z
              exact z
            · dsimp only
              rw [em]
              refine ⟨?_, fun t' ht' => ?_⟩
              · rw [k6 d ndl, d5]
                congr 2
                refine dOf_congr fun x _ => ?_
                by_cases h : x = t
                · rw [if_pos h, if_pos h]
                · rw [if_neg h, if_neg h]
              · rcases List.mem_append.mp ht' with h | h
                · have hne : t' ≠ t := fun e => htD (e ▸ h)
                  obtain ⟨ps', a1, a2, a3⟩ := O.ls t' h
                  rw [if_neg hne]
                  have b1 := s5 _ _ a1
                  refine ⟨ps', ?_, a2, fun b pb hb => tups6 _ _ (tups5 _ _ (s5 _ _ (a3 b pb hb)))⟩
                  rw [k6 _ (aw t' h), k5 _ (ne_of b1 d4 (fun z => nomatch z))]
                  exact b1
                · rw [List.mem_singleton] at h
                  rw [h, if_pos rfl]
                  refine ⟨ls, ?_, hls, fun b pb hb => tups6 _ _ (tups5 _ _ (hpp b pb hb))⟩
                  rw [k6 _ (Ne.symm nLo)]
                  exact hL5
            · dsimp only
              rw [em]
              intro t' ht'
              rcases List.mem_append.mp ht' with h | h
              · have hne : t' ≠ t := fun e => htD (e ▸ h)
                rw [if_neg hne]
                exact aw t' h
              · rw [List.mem_singleton] at h
                rw [h, if_pos rfl]
                exact Ne.symm nLo
            · rw [upd_same, List.map_append]
            · dsimp only
              rw [heirs_snoc]
              refine ((Q3.up fun b xs e => tups6 _ _ (tups5 _ _ (s5 _ _ e))).app ⟨by rw [List.length_map, List.length_range, hls], fun b pb v h1 h2 => ?_⟩)
              rw [List.getElem?_map] at h2
              obtain ⟨b', hb', rfl⟩ := Option.map_eq_some_iff.mp h2
              have hbk : b < k := by rw [← hls]; exact (List.getElem?_eq_some_iff.mp h1).1
              rw [List.getElem?_range hbk] at hb'
              cases Option.some.inj hb'
              have z := tups6 _ _ (tups5 _ _ (hpp b pb h1))
              rw [← ht, longer_is M.h0 M.hn M.hl M.hf (by omega)] at z
              exact z
            · rw [k6 b h2, k5 b h1]
              exact s5 _ _ (kp b o e h1 h2)
      · rintro σ H3 ⟨ad, qs, kn, lt, rfl, W, O, aw, hlo3, Q3, kp⟩
        rw [List.length_map, R.pt.1, List.take_length] at W O aw Q3
        obtain ⟨N, eN, rN⟩ := R.rd.next cong
        rw [eN] at W O aw Q3
        have hf2 := kw_few M W
        have hN : qs.length = N.length * k := by rw [Q3.1, heirs_len]
        -- waiting = longer
        refine ⟨_, rfl, ?_⟩
        refine ⟨fun b o e => ?_, l ++ N, heirs k N, ad, qs, lo, some (.ref lo), kn, lt, rfl, ⟨O, hlo3, Q3, rN⟩, ?_⟩
        · have z := s3 b o e
          exact kp b o z (sH b o e) (nlo z)
        · dsimp only at hf2
          rw [List.length_append] at hf2 ⊢
          by_cases hz : N.length = 0
          · rw [hN, hz, Nat.zero_mul]
            omega
          · omega
    · rw [decide_eq_true_eq] at c
      have hpl : cs = [] := List.length_eq_zero_iff.mp (by rw [← R.pt.1]; omega)
      exact ⟨_, rfl, q H' d l ad s3 R.on (R.rd.done k0 cong hpl)⟩
end
end Dk

/-! ### number_kinds -/
namespace Dk
open PySem PySem.Spec PyProof.Rows L2 Mt
open PySem.W (Codec)
def spNum {P : Program} {w : World} {β : Type} [DecidableEq β] (mi : MI P w β) : Sp := fun vs H Q _ => ∃ (d : Addr) (D : List (List Nat)) (mv : List Nat → V) (f : List Nat → β), vs = [.ref d] ∧ H d = some (.dT (dOf D mv)) ∧ D.Nodup ∧ D.length ≤ 46656 ∧ (∀ t ∈ D, mi.Is H (mv t) (f t)) ∧
  ∀ (H' : Hp) (p : Addr), Same H H' → H' p = some (.dT (dOf D fun t => .int (kOf D f t : Nat))) → Q (.ref p) H'
section
variable {P : Program} {w : World} {K : PySem.W.Frag} {mg : Str → Option Value} {base : Heap}
theorem scNum : FnScope ["marks", "numbers", "kinds", "known"] ["marks"] (defScope s_number_kinds) := ⟨rfl, rfl, rfl, by decide +kernel, rfl, by decide +kernel, by decide +kernel⟩
set_option maxHeartbeats 8000000 in
theorem fn_num {β : Type} [DecidableEq β] (mi : MI P w β) (D : Df K mg "number_kinds" s_number_kinds) (T : Txt mg) : Fn P w K mg base "number_kinds" 1 ["marks"] (spNum mi) := by
  obtain ⟨fa, fd, F, hm⟩ := D
  refine ⟨fa, fd, ?_, hm, F.kp, F.binds fun _ _ _ _ _ _ us hl => match us, hl with | [_], _ => rfl⟩
  refine F.ok scNum (fun vs H Q E h => ?_) (fun cdv A outer s H vs Q E hr h => ?_)
  · obtain ⟨d, D, mv, f, rfl, _⟩ := h
    rfl
  · obtain ⟨d, D, mv, f, rfl, hd, nd, hsz, hmk, q⟩ := h
    have hu := hu_of hr
    refine ⟨_, pss_cons (ps_set (i := 1) scNum.nd rfl (Or.inl rfl) (mi.new rfl rfl))
      (pss_cons (ps_set (i := 2) scNum.nd rfl (Or.inl rfl) pe_dnewT)
      (pss_cons (ps_lock (ps_for PassesOwn.never rfl (pi_keys (pv 0)) (pg_name (i := 3) scNum.nd rfl (Or.inl rfl))
        (pss_one (ps_dput hu (pv 2) (pv 3) (pe_setd mi hu (pv 1) (pe_dget hu (pv 0) (pv 3) (fun _ _ => rfl)) (pe_callB (mi.len rfl rfl) rfl T.b_len PySem.boot_len (pa_cons (pv 1) pa_nil)) ⟨rfl, rfl, rfl, rfl⟩) rfl))))
      (pss_one (ps_ret (pv 2))))), ?_⟩
    refine fun p1 g1 => fun p2 g2 => ?_
    have n1 : d ≠ p1 := ne_of_none hd g1
    have n12 : p1 ≠ p2 := ne_of_none upd_same g2
    have n2 : d ≠ p2 := ne_of_none (show (upd H p1 (mi.N p1 [])) d = some _ by rw [upd_ne n1]; exact hd) g2
    have hd2 : upd (upd H p1 (mi.N p1 [])) p2 (.dT []) d = some (.dT (dOf D mv)) := by rw [upd_ne n2, upd_ne n1]; exact hd
    refine ⟨d, _, hd2, trivial, fun od => ?_⟩
    refine ⟨_, rfl, d, od, rfl, .inr ⟨_, upd_same, ?_⟩⟩
    refine for_keysT (fun i σ H' => ∃ kn, σ = [some (.ref d), some (.ref p1), some (.ref p2), kn] ∧ H' d = some (.frz od (.dT (dOf D mv))) ∧ H' p1 = some (mi.N p1 (dist ((D.take i).map f))) ∧ H' p2 = some (.dT (dOf (D.take i) fun t => .int (kOf D f t : Nat))) ∧ ∀ b o, H b = some o → b ≠ d → H' b = some o)
      ⟨none, rfl, upd_same, (by rw [upd_ne (Ne.symm n1), upd_ne n12, upd_same]; rfl), (by rw [upd_ne (Ne.symm n2), upd_same]; rfl), fun b o e hb => by rw [upd_ne hb, upd_ne (ne_of_none (show upd H p1 (mi.N p1 []) b = some o by rw [upd_ne (ne_of_none e g1)]; exact e) g2), upd_ne (ne_of_none e g1)]; exact e⟩
      (fun i σ H' _ ⟨_, _, h, _⟩ => h) ?_ ?_
    · rintro i k v qa σ H' hk ⟨kn, rfl, hd', hN, hK, keep⟩ hq
      obtain ⟨t, ht, rfl, rfl⟩ := dOf_get hk
      rw [keyT_v] at hq
      have htD : t ∈ D := List.mem_of_getElem? ht
      have hi : i < D.length := (List.getElem?_eq_some_iff.mp ht).1
      have hnew := nodup_new nd ht
      have hlen : (dist ((D.take i).map f)).length ≤ 46656 := Nat.le_trans (dist_len _) (by rw [List.length_map, List.length_take]; omega)
      have tsn := take_snoc ht
      have tups : ∀ c xs, H c = some (.tup xs) → H' c = some (.tup xs) := fun c xs e => keep c _ e (ne_of e hd (fun z => nomatch z))
      have mem : f t ∈ dist ((D.take i).map f) ↔ f t ∈ (D.take i).map f := dist_mem _ _
      have ek : D.map f = ((D.take (i + 1)).map f) ++ ((D.drop (i + 1)).map f) := by rw [← List.map_append, List.take_append_drop]
      have tin : f t ∈ (D.take (i + 1)).map f := by rw [tsn, List.map_append]; exact List.mem_append_right _ (List.mem_singleton.mpr rfl)
      have kt : kOf D f t = numOf ((D.take (i + 1)).map f) (f t) := by
        unfold kOf
        rw [ek, numOf_pre tin]
      have kt2 : numOf ((D.take (i + 1)).map f) (f t) = numOf ((D.take i).map f ++ [f t]) (f t) := by rw [tsn, List.map_append]; rfl
      have np2 : qa ≠ p2 := ne_of hq hK (fun z => nomatch z)
      have np1 : qa ≠ p1 := ne_of hq hN (fun z => mi.notup _ _ _ z.symm)
      refine ⟨_, rfl, p1, _, rfl, hN, _, rfl, _, rfl, d, mv t, rfl, dget_t (.inr ⟨od, hd'⟩) hq htD, _, rfl, p1, _, rfl, hN, dist ((D.take i).map f), f t, hN, mi.up tups (hmk t htD), rfl, (by rw [sizeLine_eq]; omega), fun hb => ?_, fun hb => ?_⟩
      · have e1 : (dist ((D.take i).map f)).idxOf (f t) = kOf D f t := by rw [kt, kt2, numOf_pre (mem.mp hb)]; rfl
        have e2 : dist ((D.take (i + 1)).map f) = dist ((D.take i).map f) := by rw [tsn, List.map_append]; exact (dist_snoc _ _).trans (if_pos hb)
        rw [e1]
        refine ⟨_, rfl, _, rfl, p2, _, rfl, DPut.t (k := keyT t) hK (by rw [keyT_v]; exact hq) (by rw [dOf_len, List.length_take, sizeLine_eq]; omega), ?_⟩
        refine ⟨some (.ref qa), rfl, by rw [upd_ne n2]; exact hd', by rw [upd_ne n12, e2]; exact hN, ?_, fun b o e hb => ?_⟩
        · rw [upd_same, dOf_put_same (f := fun t => .int (kOf D f t : Nat)) hnew, ← tsn]
        · have hb1 : b ≠ p1 := ne_of_none e g1
          have hb2 : b ≠ p2 := ne_of_none (show upd H p1 (mi.N p1 []) b = some o by rw [upd_ne hb1]; exact e) g2
          rw [upd_ne hb2]
          exact keep b o e hb
      · have e1 : (dist ((D.take i).map f)).length = kOf D f t := by rw [kt, kt2, numOf_new (fun z => hb (mem.mpr z))]
        have e2 : dist ((D.take (i + 1)).map f) = dist ((D.take i).map f) ++ [f t] := by rw [tsn, List.map_append]; exact (dist_snoc _ _).trans (if_neg hb)
        rw [← e2]
        rw [e1]
        have hK' : upd H' p1 (mi.N p1 (dist ((D.take (i + 1)).map f))) p2 = some (.dT (dOf (D.take i) fun t => .int (kOf D f t : Nat))) := by rw [upd_ne (Ne.symm n12)]; exact hK
        have hq' : upd H' p1 (mi.N p1 (dist ((D.take (i + 1)).map f))) qa = some (.tup ((keyT t).map kV)) := by rw [upd_ne np1, keyT_v]; exact hq
        refine ⟨_, rfl, _, rfl, p2, _, rfl, DPut.t (k := keyT t) hK' hq' (by rw [dOf_len, List.length_take, sizeLine_eq]; omega), ?_⟩
        refine ⟨some (.ref qa), rfl, by rw [upd_ne n2, upd_ne n1]; exact hd', by rw [upd_ne n12, upd_same], ?_, fun b o e hb => ?_⟩
        · rw [upd_same, dOf_put_same (f := fun t => .int (kOf D f t : Nat)) hnew, ← tsn]
        · have z := keep b o e hb
          have hb1 : b ≠ p1 := ne_of_none e g1
          have hb2 : b ≠ p2 := ne_of_none (show upd H p1 (mi.N p1 []) b = some o by rw [upd_ne hb1]; exact e) g2
          rw [upd_ne hb2, upd_ne hb1]
          exact z
    · rintro σ H' ⟨kn, rfl, hd', hN, hK, keep⟩
      rw [dOf_len, List.take_length] at hK
      refine ⟨hd', _, rfl, q _ p2 (same_unlock hd keep) ?_⟩
      rw [upd_ne (Ne.symm n2)]
      exact hK
end
end Dk

/-! ### finer_marks -/
namespace Dk
open PySem PySem.Spec PyProof.Rows L2 Mt
open PySem.W (Codec)
def spFiner : Sp := fun vs H Q _ => ∃ (dk d : Addr) (D : List (List Nat)) (ad : List Nat → Addr) (c : List Nat → Nat) (n k : Nat) (rs : List Nat), vs = [.ref dk, .ref d] ∧ H dk = some (.dT (dOf D fun t => .int (c t : Nat))) ∧ Onw H n k rs d D ad ∧ dk ≠ d ∧ D.Nodup ∧ D.length ≤ 46656 ∧ k ≤ 4 ∧
  (∀ t ∈ D, ∀ a, a < k → longerP n k rs t a ∈ D) ∧
  ∀ (H' : Hp) (p : Addr) (mv : List Nat → V), Same H H' → H' p = some (.dT (dOf D mv)) → (∀ t ∈ D, ∃ q, mv t = .ref q ∧ H' q = some (.tup (vN (fineF n k rs c t)))) → Q (.ref p) H'
def scFinerC (s : Stmt) : Scope := match ((defBody s)[1]? : Option Stmt) with
  | some (.For _ _ [.Assign _ (.Call _ [.BinOp _ _ (.ListComp _ _ sc _) _] _ _) _] _ _) => sc
  | _ => { kind := .function, names := [], isGenerator := false, isCoroutine := false }
theorem bkFiner : BlkOk ["kinds", "onward", "marks", "known", "longer"] (defScope s_finer_marks) (scFinerC s_finer_marks) [("longer", 4)] := blkOk_by (by decide +kernel)
section
variable {P : Program} {w : World} {K : PySem.W.Frag} {mg : Str → Option Value} {base : Heap}
theorem scFiner : FnScope ["kinds", "onward", "marks", "known", "longer"] ["kinds", "onward"] (defScope s_finer_marks) := ⟨rfl, rfl, rfl, by decide +kernel, rfl, by decide +kernel, by decide +kernel⟩
set_option maxHeartbeats 8000000 in
theorem fn_finer (D : Df K mg "finer_marks" s_finer_marks) (T : Txt mg) : Fn P w K mg base "finer_marks" 1 ["kinds", "onward"] spFiner := by
  obtain ⟨fa, fd, F, hm⟩ := D
  refine ⟨fa, fd, ?_, hm, F.kp, F.binds fun _ _ _ _ _ _ us hl => match us, hl with | [_, _], _ => rfl⟩
  refine F.ok scFiner (fun vs H Q E h => ?_) (fun cdv A outer s H vs Q E hr h => ?_)
  · obtain ⟨dk, d, D, ad, c, n, k, rs, rfl, _⟩ := h
    rfl
  · obtain ⟨dk, d, D, ad, c, n, k, rs, rfl, hk, O, ne, nd, hsz, k4, cl, q⟩ := h
    have hu := hu_of hr
    refine ⟨_, pss_cons (ps_set (i := 2) scFiner.nd rfl (Or.inl rfl) pe_dnewT)
      (pss_cons (ps_lock (ps_for PassesOwn.never rfl (pi_keys (pv 1)) (pg_name (i := 3) scFiner.nd rfl (Or.inl rfl))
        (pss_one (ps_dput hu (pv 2) (pv 3) (pe_callTy call_tuple_of rfl T.b_tuple boot_tuple (pa_cons (pe_op op_catS (pe_lst (pa_cons (pe_dget hu (pv 0) (pv 3) (fun _ _ => rfl)) pa_nil))
          (pe_lc rfl scFiner.nd (pi_list (pe_dget hu (pv 1) (pv 3) (fun _ _ => rfl))) bkFiner (fun _ _ _ _ _ => pg_name (i := 4) scFiner.nd rfl (Or.inl rfl)) (fun _ _ _ _ _ => pts_nil) (fun _ _ _ _ _ => pe_dget hu (pv 0) (pv 4) (fun _ _ => rfl)))) pa_nil)) rfl))))
      (pss_one (ps_ret (pv 2)))), ?_⟩
    refine fun p2 g2 => ?_
    have n2 : d ≠ p2 := ne_of_none O.dd g2
    have nk2 : dk ≠ p2 := ne_of_none hk g2
    have hd2 : upd H p2 (.dT []) d = some (.dT (dOf D fun t => .ref (ad t))) := by rw [upd_ne n2]; exact O.dd
    refine ⟨d, _, hd2, trivial, fun od => ?_⟩
    refine ⟨_, rfl, d, od, rfl, .inr ⟨_, upd_same, ?_⟩⟩
    refine for_keysT (fun i σ H' => ∃ kn mv, σ = [some (.ref dk), some (.ref d), some (.ref p2), kn, none] ∧ H' d = some (.frz od (.dT (dOf D fun t => .ref (ad t)))) ∧ H' p2 = some (.dT (dOf (D.take i) mv)) ∧ (∀ t ∈ D.take i, ∃ q, mv t = .ref q ∧ H' q = some (.tup (vN (fineF n k rs c t)))) ∧ ∀ b o, H b = some o → b ≠ d → H' b = some o)
      ⟨none, fun _ => .non, rfl, upd_same, (by rw [upd_ne (Ne.symm n2), upd_same]; rfl), fun t ht => absurd ht List.not_mem_nil, fun b o e hb => by rw [upd_ne hb, upd_ne (ne_of_none e g2)]; exact e⟩
      (fun i σ H' _ ⟨_, _, _, h, _⟩ => h) ?_ ?_
    · rintro i ky v qa σ H' hkv ⟨kn, mv, rfl, hd', hM, hmv, keep⟩ hq
      obtain ⟨t, ht, rfl, rfl⟩ := dOf_get hkv
      rw [keyT_v] at hq
      have htD : t ∈ D := List.mem_of_getElem? ht
      have hi : i < D.length := (List.getElem?_eq_some_iff.mp ht).1
      have hnew := nodup_new nd ht
      have tsn := take_snoc ht
      have hk' := keep _ _ hk ne
      obtain ⟨ps, hl, hps, hpp⟩ := O.ls t htD
      have hl' := keep _ _ hl (ne_of hl O.dd (fun z => nomatch z))
      have tups : ∀ b xs, H b = some (.tup xs) → H' b = some (.tup xs) := fun b xs e => keep b _ e (ne_of e O.dd (fun z => nomatch z))
      -- [kinds[known]]
      refine ⟨_, rfl, _, rfl, dk, _, rfl, dget_t (.inl hk') hq htD, (by show 1 ≤ sizeLine; decide), fun p3 g3 => ?_⟩
      have n3 : ∀ {b o}, H' b = some o → b ≠ p3 := fun e => ne_of_none e g3
      have s3 : Same H' (upd H' p3 (.lst [.int (c t : Nat)])) := same_new g3 _
      -- [kinds[longer] for longer in onward[known]]
      refine ⟨_, rfl, _, rfl, d, _, rfl, dget_t (f := fun t => .ref (ad t)) (.inr ⟨od, s3 _ _ hd'⟩) (s3 _ _ hq) htD, ad t, rfl, ⟨_, SqL.of (s3 _ _ hl')⟩, fun L hL => ?_⟩
      have lx : (ps.map V.ref).length = k := by rw [List.length_map, hps]
      refine lc_list (K := K) (a := ad t) (xs := ps.map V.ref) (fun j H4 => Same (upd H' p3 (.lst [.int (c t : Nat)])) H4 ∧ H4 L = some (.lst (vN (((List.range k).map fun a => c (longerP n k rs t a)).take j)))) ⟨same_new hL _, upd_same⟩ (fun j H4 _ ⟨s4, _⟩ => SqL.of (s4 _ _ (s3 _ _ hl'))) ?_ ?_
      · rintro j x H4 hx ⟨s4, h4⟩
        rw [List.getElem?_map] at hx
        obtain ⟨pj, hpj, rfl⟩ := Option.map_eq_some_iff.mp hx
        have hj : j < k := by rw [← hps]; exact (List.getElem?_eq_some_iff.mp hpj).1
        refine ⟨rfl, ?_⟩
        refine ⟨_, rfl, _, rfl, dk, _, rfl, dget_t (f := fun t => .int (c t : Nat)) (.inl (s4 _ _ (s3 _ _ hk'))) (s4 _ _ (s3 _ _ (tups _ _ (hpp j pj hpj)))) (cl t htD j hj), ?_⟩
        have hg : ((List.range k).map fun a => c (longerP n k rs t a))[j]? = some (c (longerP n k rs t j)) := by
          rw [List.getElem?_map, List.getElem?_range hj]
          rfl
        refine ⟨_, h4, small1000 (by rw [vN_len, List.length_take]; omega), ?_, ?_⟩
        · intro b o e
          rw [upd_ne (ne_of_none e hL)]
          exact s4 b o e
        · rw [upd_same, take_snoc hg, vN_append]
          rfl
      · rintro H4 ⟨s4, h4⟩
        have e0 : ((List.range k).map fun a => c (longerP n k rs t a)).take k = (List.range k).map fun a => c (longerP n k rs t a) := List.take_of_length_le (by rw [List.length_map, List.length_range]; exact Nat.le_refl _)
        rw [lx, e0] at h4
        refine ⟨p3, L, _, _, rfl, rfl, SqL.of (s4 _ _ upd_same), SqL.of h4, Nat.le_of_lt (small1000 (by rw [vN_len, List.length_map, List.length_range]; show 1 + k ≤ 1000; omega)), fun p5 g5 => ?_⟩
        refine ⟨p5, _, rfl, .inl ⟨SqL.of upd_same, fun p6 g6 => ?_⟩⟩
        have s6 : Same H' (upd (upd H4 p5 (.lst ([V.int (c t : Nat)] ++ vN ((List.range k).map fun a => c (longerP n k rs t a))))) p6 (.tup ([V.int (c t : Nat)] ++ vN ((List.range k).map fun a => c (longerP n k rs t a))))) := ((s3.trans s4).trans (same_new g5 _)).trans (same_new g6 _)
        refine gen_heap (R := fun H6 => Same H' H6 ∧ H6 p6 = some (.tup (vN (fineF n k rs c t)))) ⟨s6, upd_same.trans rfl⟩ fun H6 hh => ?_
        obtain ⟨s7, h6⟩ := hh
        refine ⟨_, rfl, _, rfl, p2, _, rfl, DPut.t (k := keyT t) (s7 _ _ hM) (by rw [keyT_v]; exact s7 _ _ hq) (by rw [dOf_len, List.length_take, sizeLine_eq]; omega), ?_⟩
        rw [dOf_put _ hnew, ← tsn]
        have hM6 := s7 _ _ hM
        refine ⟨some (.ref qa), _, rfl, by rw [upd_ne n2]; exact s7 _ _ hd', upd_same, fun x hx => ?_, fun b o e hb => ?_⟩
        · by_cases hxt : x = t
          · refine ⟨p6, by rw [if_pos hxt], ?_⟩
            rw [upd_ne (ne_of h6 hM6 (fun z => nomatch z)), hxt]
            exact h6
          · rw [tsn] at hx
            rcases List.mem_append.mp hx with hx | hx
            · obtain ⟨q', e1, e2⟩ := hmv x hx
              refine ⟨q', by rw [if_neg hxt]; exact e1, ?_⟩
              have z := s7 _ _ e2
              rw [upd_ne (ne_of z hM6 (fun z => nomatch z))]
              exact z
            · exact absurd (List.mem_singleton.mp hx) hxt
        · rw [upd_ne (ne_of_none e g2)]
          exact s7 _ _ (keep b o e hb)
    · rintro σ H' ⟨kn, mv, rfl, hd', hM, hmv, keep⟩
      rw [dOf_len, List.take_length] at hM hmv
      refine ⟨hd', _, rfl, q _ p2 mv (same_unlock O.dd keep) (by rw [upd_ne (Ne.symm n2)]; exact hM) fun t ht => ?_⟩
      obtain ⟨q', e1, e2⟩ := hmv t ht
      exact ⟨q', e1, by rw [upd_ne (ne_of e2 hd' (fun z => nomatch z))]; exact e2⟩
end
end Dk

/-! ### part_kinds -/
namespace Dk
open PySem PySem.Spec PyProof.Rows L2 Mt
open PySem.W (Codec)
def spPart : Sp := fun vs H Q _ => ∃ (dm d : Addr) (l : List Rd11.Kind) (ad : List Nat → Addr) (n k g : Nat) (rs : List Nat), vs = [.ref dm, .ref d] ∧ H dm = some (.dT (dOf (l.map (·.2)) fun t => .bl (takenP n k g rs t))) ∧ Onw H n k rs d (l.map (·.2)) ad ∧ k ≤ 4 ∧ MOk n k rs ∧ AllK k (shT ⟨n, k, rs, g⟩) l ∧
  ∀ (H' : Hp) (p : Addr) (c : List Nat → Nat) (N : Nat), Same H H' → H' p = some (.dT (dOf (l.map (·.2)) fun t => .int (c t : Nat))) → Kin n k g rs l c N → Q (.ref p) H'
theorem max_nat {l : List Nat} {M : Int} (h : M ∈ l.map fun x => ((x : Nat) : Int)) (hall : ∀ y ∈ l.map (fun x => ((x : Nat) : Int)), y ≤ M) : ∃ m : Nat, M = (m : Int) ∧ m ∈ l ∧ ∀ y ∈ l, y ≤ m := by
  obtain ⟨m, hm, rfl⟩ := List.mem_map.mp h
  refine ⟨m, rfl, hm, fun y hy => ?_⟩
  have z := hall _ (List.mem_map.mpr ⟨y, hy, rfl⟩)
  omega
section
variable {P : Program} {w : World} {K : PySem.W.Frag} {mg : Str → Option Value} {base : Heap}
theorem scPart : FnScope ["marks", "onward", "kinds", "finer"] ["marks", "onward"] (defScope s_part_kinds) := ⟨rfl, rfl, rfl, by decide +kernel, rfl, by decide +kernel, by decide +kernel⟩
set_option maxHeartbeats 8000000 in
theorem fn_part (D : Df K mg "part_kinds" s_part_kinds) (T : Txt mg) (GB : Fn P w K mg base "number_kinds" 1 ["marks"] (spNum (miB P w))) (GT : Fn P w K mg base "number_kinds" 1 ["marks"] (spNum (miT P w))) (GF : Fn P w K mg base "finer_marks" 1 ["kinds", "onward"] spFiner) :
    Fn P w K mg base "part_kinds" 2 ["marks", "onward"] spPart := by
  obtain ⟨fa, fd, F, hm⟩ := D
  refine ⟨fa, fd, ?_, hm, F.kp, F.binds fun _ _ _ _ _ _ us hl => match us, hl with | [_, _], _ => rfl⟩
  refine F.ok scPart (fun vs H Q E h => ?_) (fun cdv A outer s H vs Q E hr h => ?_)
  · obtain ⟨dm, d, l, ad, n, k, g, rs, rfl, _⟩ := h
    rfl
  · obtain ⟨dm, d, l, ad, n, k, g, rs, rfl, hm', O, k4, M, A0, q⟩ := h
    have R := A0.reach M
    have nd := A0.nd
    have hsz : (l.map (·.2)).length ≤ 46656 := by rw [List.length_map]; exact few_all M A0
    have fin0 : ∀ (c : List Nat → Nat) (N : Nat), Col n k g rs (l.map (·.2)) c N → (dist ((l.map (·.2)).map (fineF n k rs c))).length = N → Fst (l.map (·.2)) c → Kin n k g rs l c N := fun c N C h hF => ⟨M, A0, C, fun t ht t' ht' e => fine_stays C h ht ht' e, hF⟩
    generalize l.map (·.2) = D at hm' O R nd hsz fin0 q
    refine ⟨_, pss_cons (ps_set (i := 2) scPart.nd rfl (Or.inl rfl) (pe_fn GB hr (pa_cons (pv 0) pa_nil)))
      (pss_one (ps_while PassesOwn.never (pt_val pe_bl)
        (pss_cons (ps_set (i := 3) scPart.nd rfl (Or.inl rfl) (pe_fn GT hr (pa_cons (pe_fn GF hr (pa_cons (pv 2) (pa_cons (pv 1) pa_nil))) pa_nil)))
        (pss_cons (ps_if (pt_cmpR op_eq (pe_callB (cr_maxV rfl) rfl T.b_max boot_max (pa_cons (pe_vals (pv 3)) pa_nil)) (pe_callB (cr_maxV rfl) rfl T.b_max boot_max (pa_cons (pe_vals (pv 2)) pa_nil)) (nomark _))
          (pss_one (ps_ret (pv 2))) pss_nil)
        (pss_one (ps_set (i := 2) scPart.nd rfl (Or.inl rfl) (pv 3))))))), ?_⟩
    have hDne : 0 < D.length := List.length_pos_of_mem R.start
    -- kinds = number_kinds(marks)
    refine ⟨_, rfl, dm, D, _, takenP n k g rs, rfl, hm', nd, hsz, fun t _ => rfl, fun H1 kd s1 h1 => ?_⟩
    refine ⟨fun m σ H' => ∃ (c : List Nat → Nat) (N : Nat) (kd : Addr) (fin : Option V), σ = [some (.ref dm), some (.ref d), some (.ref kd), fin] ∧ Same H H' ∧ H' kd = some (.dT (dOf D fun t => .int (c t : Nat))) ∧ Col n k g rs D c N ∧ Fst D c ∧ N ≤ D.length ∧ m = D.length - N,
      ⟨_, _, _, kd, none, rfl, s1, h1, col_start D, kOf_fst D _, Nat.le_trans (dist_len _) (by rw [List.length_map]; exact Nat.le_refl _), rfl⟩, ?_⟩
    rintro m σ H' ⟨c, N, kd, fin, rfl, s2, hk, C, hF, hN, rfl⟩
    refine ⟨_, rfl, iteT ?_⟩
    refine ⟨fun σ' H' => ∃ (c' : List Nat → Nat) (N' : Nat) (kd : Addr) (fin : Option V), σ' = [some (.ref dm), some (.ref d), some (.ref kd), fin] ∧ Same H H' ∧ H' kd = some (.dT (dOf D fun t => .int (c' t : Nat))) ∧ Col n k g rs D c' N' ∧ Fst D c' ∧ N' ≤ D.length ∧ N < N',
      fun σ' H' ⟨c', N', kd, fin, e, s3, h3, C', hF', hN', hlt⟩ => ⟨_, by omega, c', N', kd, fin, e, s3, h3, C', hF', hN', rfl⟩, ?_⟩
    have O2 := O.same s2
    have nkd : kd ≠ d := fun e => by
      have z := O2.dd
      rw [← e, hk] at z
      have y := HO.dT.inj (Option.some.inj z)
      have t0 := R.start
      have v1 := dOf_val (fun t => V.int (c t : Nat)) (emptyP n k rs) D
      have v2 := dOf_val (fun t => V.ref (ad t)) (emptyP n k rs) D
      rw [y, v2, if_pos t0, if_pos t0] at v1
      cases v1
    -- finer = number_kinds(finer_marks(kinds, onward))
    refine ⟨_, rfl, _, rfl, kd, d, D, ad, c, n, k, rs, rfl, hk, O2, nkd, nd, hsz, k4, R.go, fun H3 fm mv s3 h3 hmv => ?_⟩
    refine ⟨fm, D, mv, fineF n k rs c, rfl, h3, nd, hsz, hmv, fun H4 fk s4 h4 => ?_⟩
    have hk4 := s4 _ _ (s3 _ _ hk)
    have C' := col_fine R C
    -- max(finer.values()) == max(kinds.values())
    have len : ∀ c : List Nat → Nat, 0 < (D.map fun t => ((c t : Nat) : Int)).length := fun c => by rw [List.length_map]; exact hDne
    have mm : ∀ c : List Nat → Nat, (D.map fun t => ((c t : Nat) : Int)) = (D.map c).map fun x => ((x : Nat) : Int) := fun c => by rw [List.map_map]; rfl
    refine ⟨_, rfl, fk, _, rfl, h4, fun v1 g1 => ?_⟩
    have t1 : Same H4 (upd H4 v1 (View v1 fk)) := same_new g1 _
    refine ⟨v1, fk, _, _, rfl, upd_same, t1 _ _ h4, dOf_vals D _, len _, fun M1 hM1 hA1 => ?_⟩
    rw [mm] at hM1 hA1
    obtain ⟨m1, rfl, e1, a1⟩ := max_nat hM1 hA1
    have z1 := top_col C' e1 a1
    refine ⟨_, rfl, kd, _, rfl, t1 _ _ hk4, fun v2 g2 => ?_⟩
    have t2 := t1.trans (same_new g2 (View v2 kd))
    refine ⟨v2, kd, _, _, rfl, upd_same, t2 _ _ hk4, dOf_vals D _, len _, fun M2 hM2 hA2 => ?_⟩
    rw [mm] at hM2 hA2
    obtain ⟨m2, rfl, e2, a2⟩ := max_nat hM2 hA2
    have z2 := top_col C e2 a2
    refine ⟨rfl, _, rfl, ?_⟩
    have sAll := (s2.trans s3).trans s4
    refine ite2 (fun cc => ?_) (fun cc => ?_)
    · rw [dN, decide_eq_true_eq] at cc
      exact ⟨_, rfl, q _ kd c N (sAll.trans t2) (t2 _ _ hk4) (fin0 c N C (by rw [← z1, ← z2, cc]) hF)⟩
    · rw [dN, decide_eq_true_eq] at cc
      have hmore := fine_more (n := n) (k := k) (g := g) (rs := rs) C
      refine ⟨_, rfl, ?_⟩
      exact ⟨_, _, fk, some (.ref fk), rfl, sAll.trans t2, t2 _ _ h4, C', kOf_fst D _, fine_len c, by omega⟩
end
end Dk

/-! ### a display of one key that is a tuple; setdefault by tuples; list(d.values()); lists of rows compared -/
namespace Dk
open PySem PySem.Spec PyProof.Rows L2 Mt
open PySem.W (Codec)
/-- d.values(), d by ints and texts -/
def tValsK (td : TE) : TE := fun σ H Q => td σ H fun x H1 => ∃ (d : Addr) (kvs : List (Key × V)), x = .ref d ∧ H1 d = some (.dK kvs) ∧ ∀ p, H1 p = none → Q (.ref p) (upd H1 p (View p d))
theorem pe_valsK {X : Cx} {e : Expr} {td : TE} {apos cpos : Pos} (he : PE X e td) (hbase : attributeBase e "values" X.env (eval e X.env) = eval e X.env := by rfl) (hline : (apos.endLine == cpos.line) = true := by rfl) : PE X (.Call (.Attribute e "values" apos) [] [] cpos) (tValsK td) := by
  intro pins s σ H Q I h
  refine wpAny_Call_method (T := "dict") (id := "dict.values") hbase rfl hline F.plainAttrs_dict F.slot_dict_values F.type_dict_values (thn (he pins s σ H _ I h) fun u s1 ⟨x, H1, I1, rx, d, kvs, ex, hd, q⟩ => ?_)
  subst ex
  obtain rfl : u = Value.ref d := rx
  obtain ⟨t1, t2, hs⟩ := isD_at I1 (.inl ⟨_, .inl hd⟩)
  refine ⟨t1, t2, ?_⟩
  show wpAny _ _ (callWith cpos (.builtin "dict.values") [.ref d] [] []) _ X.xe s1
  refine method_meetsIn F.slot_dict_values F.entry_dict_values rfl (PySem.evalArgs_none ⟨rfl, t1, F.args_dict_values_1 _, _, val_meets d hs, t1, ?_⟩)
  refine ⟨.ref s1.heap.objs.size, _, I1.laid (a := s1.heap.objs.size) (o := View s1.heap.objs.size d) (t' := s1.toks) (fun _ _ q => Heap.get?_push_of_some _ q) (Nat.le_refl _) ?_, rfl, q _ (I1.hok.fresh (Nat.le_refl _))⟩
  refine ⟨⟨_, Heap.get?_push_size _ rfl, rfl, rfl⟩, ⟨_, Heap.get?_push_size _ rfl⟩, ?_⟩
  rintro h1 h2 ⟨o, e, r⟩ k
  exact ⟨o, k o e, r⟩
theorem kv_vals {κ : Type} : ∀ {kvs : List (κ × V)} {vs : List (κ × Value)}, KV kvs vs → Vals (kvs.map (·.2)) (vs.map (·.2))
  | _, _, .nil => .nil
  | _, _, .cons h t => .cons h.2 (kv_vals t)
/-- list(d.values()) -/
theorem cr_listV {X : Cx} (hc : X.calm = true) : CallR X (.type "list") (fun xs H Q => ∃ (p d : Addr) (kvs : List (Key × V)), xs = [.ref p] ∧ H p = some (View p d) ∧ H d = some (.dK kvs) ∧ ∀ l, H l = none → Q (.ref l) (upd H l (.lst (kvs.map (·.2))))) := by
  intro pins s σ H vs us Q I r h
  obtain ⟨p, d, kvs, rfl, hp, hd, q⟩ := h
  rw [Vals.ref1 r]
  obtain ⟨view, _⟩ := I.hok p _ hp
  obtain ⟨z, hs, xs, rel, o, es, ep, ho, hx, hdd, hko, hpr, hnd⟩ := dk_of I.hok hd
  have hl : kvs.length = xs.length := Paired.length rel
  refine PySem.W.kdl_call (PySem.W.kdl_values (knd := mixKind X.prog X.w) (kvs := xs) (ep := ep)) (I.ok.hd hc) ⟨view, o, es, ho, hx, hdd, hko, hpr, hnd⟩ (by rw [← hl]; exact z) fun h' tk acc' c' hk hS hacc => ?_
  have e1 : acc'.toList = xs.map (·.2) := PySem.W.kdl_vals_eq _ (by rw [Array.length_toList]; exact hacc.1) fun j v hv => hacc.2 j v (by rw [← Array.getElem?_toList]; exact hv)
  refine ⟨.ref _, _, I.laid (a := s.heap.objs.size) (o := .lst (kvs.map (·.2))) (t' := tk) hk (Nat.le_refl _) ⟨by rw [List.length_map]; exact z, xs.map (·.2), c', kv_vals rel, ?_⟩, rfl, q _ (I.hok.fresh (Nat.le_refl _))⟩
  rw [hS, ← e1, Array.toArray_toList]
/-! rows -/
def rowV (r : Bool × List Nat) : List V := .bl r.1 :: vN r.2
def RowAt (H : Hp) (x : V) (r : Bool × List Nat) : Prop := ∃ q, x = .ref q ∧ H q = some (.tup (rowV r))
theorem paired_of {α β : Type} {P : α → β → Prop} : ∀ {xs : List α} {ys : List β}, xs.length = ys.length → (∀ (i : Nat) (x : α) (y : β), xs[i]? = some x → ys[i]? = some y → P x y) → Paired P xs ys
  | [], [], _, _ => .nil
  | [], _ :: _, h, _ => by cases h
  | _ :: _, [], h, _ => by cases h
  | x :: xs, y :: ys, h, hp => .cons (hp 0 x y rfl rfl) (paired_of (Nat.succ.inj h) fun i a b h1 h2 => hp (i + 1) a b h1 h2)
section
variable {K : PySem.W.Frag} {H : Hp}
end
end Dk

/-! ### kinds_of_words -/
namespace Dk
open PySem PySem.Spec PyProof.Rows L2 Mt
open PySem.W (Codec)
def spKinds (K : PySem.W.Frag) : Sp := fun vs H Q _ => ∃ (n k g : Nat) (a : Addr) (rs : List Nat), vs = [.int (n : Int), .int (k : Int), .int (g : Int), .ref a] ∧ SqL K H a (vN rs) ∧ MOk n k rs ∧ 0 < k ∧ k ≤ 4 ∧
  ∀ (H' : Hp) (p : Addr) (xs : List V) (R : List (Bool × List Nat)), Same H H' → H' p = some (.lst xs) → Paired (RowAt H') xs R → Rows n k g rs R → Q (.ref p) H'
/-- a dict by 0, 1, .. -/
def rOf (q : Nat → V) (m : Nat) : List (Key × V) := (List.range m).map fun (j : Nat) => ((Sum.inl (j : Int) : Key), q j)
theorem rOf_succ (q : Nat → V) (m : Nat) : rOf q (m + 1) = rOf q m ++ [(Sum.inl (m : Int), q m)] := by
  unfold rOf
  rw [List.range_succ, List.map_append]
  rfl
theorem rOf_len (q : Nat → V) (m : Nat) : (rOf q m).length = m := by
  unfold rOf
  rw [List.length_map, List.length_range]
theorem rOf_congr {q q' : Nat → V} {m : Nat} (h : ∀ j, j < m → q j = q' j) : rOf q m = rOf q' m := List.map_congr_left fun j hj => by rw [h j (List.mem_range.mp hj)]
theorem inl_inj {i j : Nat} (h : (Sum.inl (i : Int) : Key) = Sum.inl (j : Int)) : i = j := Int.ofNat.inj (Sum.inl.inj h)
theorem rOf_none (q : Nat → V) {m j : Nat} (h : m ≤ j) : valV (rOf q m) (Sum.inl (j : Int)) = none := by
  have z : ∀ l : List Nat, (∀ i ∈ l, i ≠ j) → valV (l.map fun (i : Nat) => ((Sum.inl (i : Int) : Key), q i)) (Sum.inl (j : Int)) = none := by
    intro l
    induction l with
    | nil => intro _; rfl
    | cons i l ih =>
      intro hl
      rw [List.map_cons, valV_neg (p := ((Sum.inl (i : Int) : Key), q i)) (fun y => hl i (List.mem_cons_self ..) (inl_inj y))]
      exact ih fun i hi => hl i (List.mem_cons_of_mem _ hi)
  exact z _ fun i hi e => by have := List.mem_range.mp hi; omega
theorem rOf_put_new (q : Nat → V) (m : Nat) (v : V) : putK (rOf q m) (Sum.inl (m : Int)) v = rOf (fun j => if j = m then v else q j) (m + 1) := by
  rw [putK_new v (rOf_none q (Nat.le_refl m)), rOf_succ, if_pos rfl]
  congr 1
  exact rOf_congr fun j hj => by rw [if_neg (by omega)]
theorem rOf_put_old (q : Nat → V) {m i : Nat} (hi : i < m) (v : V) : putK (rOf q m) (Sum.inl (i : Int)) v = rOf (fun j => if j = i then v else q j) m := by
  have ha : ((rOf q m).any fun kv => decide (kv.1 = Sum.inl (i : Int))) = true := List.any_eq_true.mpr ⟨_, List.mem_map.mpr ⟨i, List.mem_range.mpr hi, rfl⟩, decide_eq_true rfl⟩
  unfold putK
  rw [if_pos ha]
  unfold rOf
  rw [List.map_map]
  refine List.map_congr_left fun j _ => ?_
  show (if (Sum.inl (j : Int) : Key) = Sum.inl (i : Int) then ((Sum.inl (j : Int) : Key), v) else (Sum.inl (j : Int), q j)) = (Sum.inl (j : Int), if j = i then v else q j)
  by_cases h : j = i
  · rw [if_pos (by rw [h]), if_pos h]
  · rw [if_neg (fun e => h (inl_inj e)), if_neg h]
theorem picked_rows {P : Nat → Bool × List Nat → Prop} : ∀ N : Nat, (∀ i, i < N → ∃ u, P i u) → ∃ l : List (Bool × List Nat), l.length = N ∧ ∀ i u, l[i]? = some u → P i u
  | 0, _ => ⟨[], rfl, fun i u h => by simp at h⟩
  | N + 1, h => by
    obtain ⟨l, hl, hp⟩ := picked_rows N fun i hi => h i (by omega)
    obtain ⟨u, hu⟩ := h N (by omega)
    refine ⟨l ++ [u], by rw [List.length_append, hl]; rfl, fun i v hv => ?_⟩
    by_cases hi : i < l.length
    · rw [List.getElem?_append_left hi] at hv
      exact hp i v hv
    · rw [List.getElem?_append_right (by omega)] at hv
      have z := (List.getElem?_eq_some_iff.mp hv).1
      have z' : i - l.length < 1 := z
      have e : i = N := by omega
      rw [e, hl, Nat.sub_self] at hv
      have e2 : u = v := Option.some.inj hv
      rw [e, ← e2]
      exact hu
/-- kinds of the first i tables: numbered 0 to m - 1 -/
structure Upto (D : List (List Nat)) (c : List Nat → Nat) (i m : Nat) : Prop where
  lt : ∀ t ∈ D.take i, c t < m
  sur : ∀ j, j < m → ∃ t ∈ D.take i, c t = j
theorem Upto.next {D : List (List Nat)} {c : List Nat → Nat} {i m : Nat} (U : Upto D c i m) (F : Fst D c) {t : List Nat} (h : D[i]? = some t) : (c t < m ∧ Upto D c (i + 1) m) ∨ (c t = m ∧ Upto D c (i + 1) (m + 1)) := by
  have tsn := take_snoc h
  have hle : c t ≤ m := Nat.le_of_not_lt fun hlt => by
    obtain ⟨j, t', hj, e, ec⟩ := F i t h m hlt
    have hm : t' ∈ D.take i := by
      have z := (List.getElem?_take_of_lt hj (l := D)).trans e
      exact List.mem_of_getElem? z
    have := U.lt t' hm
    omega
  rcases Nat.lt_or_ge (c t) m with hlt | hge
  · refine .inl ⟨hlt, fun x hx => ?_, fun j hj => ?_⟩
    · rw [tsn] at hx
      rcases List.mem_append.mp hx with hx | hx
      · exact U.lt x hx
      · rw [List.mem_singleton.mp hx]; exact hlt
    · obtain ⟨x, hx, e⟩ := U.sur j hj
      exact ⟨x, by rw [tsn]; exact List.mem_append_left _ hx, e⟩
  · have e : c t = m := by omega
    refine .inr ⟨e, fun x hx => ?_, fun j hj => ?_⟩
    · rw [tsn] at hx
      rcases List.mem_append.mp hx with hx | hx
      · exact Nat.lt_succ_of_lt (U.lt x hx)
      · rw [List.mem_singleton.mp hx, e]; exact Nat.lt_succ_self _
    · rcases Nat.lt_or_ge j m with h1 | h1
      · obtain ⟨x, hx, e⟩ := U.sur j h1
        exact ⟨x, by rw [tsn]; exact List.mem_append_left _ hx, e⟩
      · exact ⟨t, by rw [tsn]; exact List.mem_append_right _ (List.mem_singleton.mpr rfl), by omega⟩
def scKindsC (s : Stmt) : Scope := match ((defBody s)[5]? : Option Stmt) with
  | some (.For _ _ [.Assign _ (.Call _ [.BinOp _ _ (.ListComp _ _ sc _) _] _ _) _] _ _) => sc
  | _ => { kind := .function, names := [], isGenerator := false, isCoroutine := false }
theorem bkKinds : BlkOk ["n", "k", "good", "rules", "onward", "taken", "known", "kinds", "rows", "longer"] (defScope s_kinds_of_words) (scKindsC s_kinds_of_words) [("longer", 9)] := blkOk_by (by decide +kernel)
section
variable {P : Program} {w : World} {K : PySem.W.Frag} {mg : Str → Option Value} {base : Heap}
theorem scKinds : FnScope ["n", "k", "good", "rules", "onward", "taken", "known", "kinds", "rows", "longer"] ["n", "k", "good", "rules"] (defScope s_kinds_of_words) := ⟨rfl, rfl, rfl, by decide +kernel, rfl, by decide +kernel, by decide +kernel⟩
set_option maxHeartbeats 8000000 in
theorem fn_kinds (D : Df K mg "kinds_of_words" s_kinds_of_words) (T : Txt mg) (FK : Fn P w K mg base "reach_tables" 5 ["n", "k", "rules"] (spReach K)) (FT : Fn P w K mg base "is_taken" 5 ["n", "k", "good", "rules", "known"] (spTaken K)) (FC : Fn P w K mg base "part_kinds" 5 ["marks", "onward"] spPart) :
    Fn P w K mg base "kinds_of_words" 6 ["n", "k", "good", "rules"] (spKinds K) := by
  obtain ⟨f, fd, F, hm⟩ := D
  refine ⟨f, fd, ?_, hm, F.kp, F.binds fun _ _ _ _ _ _ us hl => match us, hl with | [_, _, _, _], _ => rfl⟩
  refine F.ok scKinds (fun vs H Q E h => ?_) (fun cdv A outer s H vs Q E hr h => ?_)
  · obtain ⟨n, k, g, a, rs, rfl, _⟩ := h
    rfl
  · obtain ⟨n, k, g, a, rs, rfl, hA, M, k0, k4, q⟩ := h
    have hu := hu_of hr
    refine ⟨_, pss_cons (ps_set (i := 4) scKinds.nd rfl (Or.inl rfl) (pe_fn FK hr (pa_cons (pv 0) (pa_cons (pv 1) (pa_cons (pv 3) pa_nil)))))
      (pss_cons (ps_set (i := 5) scKinds.nd rfl (Or.inl rfl) pe_dnewT)
      (pss_cons (ps_lock (ps_for PassesOwn.never rfl (pi_keys (pv 4)) (pg_name (i := 6) scKinds.nd rfl (Or.inl rfl))
        (pss_one (ps_dput hu (pv 5) (pv 6) (pe_fn FT hr (pa_cons (pv 0) (pa_cons (pv 1) (pa_cons (pv 2) (pa_cons (pv 3) (pa_cons (pv 6) pa_nil)))))) rfl))))
      (pss_cons (ps_set (i := 7) scKinds.nd rfl (Or.inr rfl) (pe_fn FC hr (pa_cons (pv 5) (pa_cons (pv 4) pa_nil))))
      (pss_cons (ps_set (i := 8) scKinds.nd rfl (Or.inl rfl) pe_dnewK)
      (pss_cons (ps_lock (ps_for PassesOwn.never rfl (pi_keys (pv 4)) (pg_name (i := 6) scKinds.nd rfl (Or.inl rfl))
        (pss_one (ps_dput hu (pv 8) (pe_dget hu (pv 7) (pv 6) (fun _ _ => rfl)) (pe_callTy call_tuple_of rfl T.b_tuple boot_tuple (pa_cons (pe_op op_catS (pe_lst (pa_cons (pe_dget hu (pv 5) (pv 6) (fun _ _ => rfl)) pa_nil))
          (pe_lc rfl scKinds.nd (pi_list (pe_dget hu (pv 4) (pv 6) (fun _ _ => rfl))) bkKinds (fun _ _ _ _ _ => pg_name (i := 9) scKinds.nd rfl (Or.inl rfl)) (fun _ _ _ _ _ => pts_nil) (fun _ _ _ _ _ => pe_dget hu (pv 7) (pv 9) (fun _ _ => rfl)))) pa_nil)) rfl))))
      (pss_one (ps_ret (pe_callTy (cr_listV rfl) rfl T.b_list boot_list (pa_cons (pe_valsK (pv 8)) pa_nil))))))))), ?_⟩
    -- onward = reach_tables(..); taken = {}
    refine ⟨_, rfl, _, rfl, _, rfl, n, k, g, a, rs, rfl, hA, M, k0, k4, fun H2 d l ad s2 O A0 => ?_⟩
    have hDl : (l.map (·.2)).length ≤ 46656 := by rw [List.length_map]; exact few_all M A0
    have R := A0.reach M
    have nd := A0.nd
    refine fun p2 g2 => ?_
    have n2 : d ≠ p2 := ne_of_none O.dd g2
    have hd2 : upd H2 p2 (.dT []) d = some (.dT (dOf (l.map (·.2)) fun t => .ref (ad t))) := by rw [upd_ne n2]; exact O.dd
    refine ⟨d, _, hd2, trivial, fun od => ?_⟩
    refine ⟨_, rfl, d, od, rfl, .inr ⟨_, upd_same, ?_⟩⟩
    refine for_keysT (fun i σ H' => ∃ kn, σ = [some (.int (n : Int)), some (.int (k : Int)), some (.int (g : Int)), some (.ref a), some (.ref d), some (.ref p2), kn, none, none, none] ∧ H' d = some (.frz od (.dT (dOf (l.map (·.2)) fun t => .ref (ad t)))) ∧ H' p2 = some (.dT (dOf ((l.map (·.2)).take i) fun t => .bl (takenP n k g rs t))) ∧ ∀ b o, H2 b = some o → b ≠ d → H' b = some o)
      ⟨none, rfl, upd_same, (by rw [upd_ne (Ne.symm n2), upd_same]; rfl), fun b o e hb => by rw [upd_ne hb, upd_ne (ne_of_none e g2)]; exact e⟩
      (fun i σ H' _ ⟨_, _, h, _⟩ => h) ?_ ?_
    · rintro i ky v qa σ H' hkv ⟨kn, rfl, hd', hM, keep⟩ hq
      obtain ⟨t, ht, rfl, rfl⟩ := dOf_get hkv
      rw [keyT_v] at hq
      have htD : t ∈ l.map (·.2) := List.mem_of_getElem? ht
      have hi : i < (l.map (·.2)).length := (List.getElem?_eq_some_iff.mp ht).1
      have hnew := nodup_new nd ht
      have tsn := take_snoc ht
      have hseq : SqL K H' a (vN rs) := sq_keep (s2.seq hA) O.dd keep
      have tok : TabOk n t := by
        obtain ⟨u, _, rfl⟩ := R.of t htD
        exact shT_ok ⟨n, k, rs, g⟩ u
      refine ⟨_, rfl, _, rfl, _, rfl, _, rfl, _, rfl, n, k, g, a, qa, rs, t, rfl, hseq, hq, M, tok, fun H3 s3 => ?_⟩
      refine ⟨_, rfl, _, rfl, p2, _, rfl, DPut.t (k := keyT t) (s3 _ _ hM) (by rw [keyT_v]; exact s3 _ _ hq) (by rw [dOf_len, List.length_take, sizeLine_eq]; omega), ?_⟩
      refine ⟨some (.ref qa), rfl, by rw [upd_ne n2]; exact s3 _ _ hd', ?_, fun b o e hb => ?_⟩
      · rw [upd_same, dOf_put_same (f := fun t => .bl (takenP n k g rs t)) hnew, ← tsn]
      · rw [upd_ne (ne_of_none e g2)]
        exact s3 _ _ (keep b o e hb)
    · rintro σ H' ⟨kn, rfl, hd', hM, keep⟩
      rw [dOf_len, List.take_length] at hM
      refine ⟨hd', ?_⟩
      have su := same_unlock O.dd keep
      have hM3 : upd H' d (.dT (dOf (l.map (·.2)) fun t => .ref (ad t))) p2 = some (.dT (dOf (l.map (·.2)) fun t => .bl (takenP n k g rs t))) := by rw [upd_ne (Ne.symm n2)]; exact hM
      -- kinds = part_kinds(taken, onward)
      refine ⟨_, rfl, _, rfl, p2, d, l, ad, n, k, g, rs, rfl, hM3, O.same su, k4, M, A0, fun H5 p5 c N s5 h5 Kn => ?_⟩
      have O5 := (O.same su).same s5
      have hM5 := s5 _ _ hM3
      have n5 : p5 ≠ d := fun e => by
        have z := O5.dd
        rw [← e, h5] at z
        have y := HO.dT.inj (Option.some.inj z)
        have v1 := dOf_val (fun t => V.int (c t : Nat)) (emptyP n k rs) (l.map (·.2))
        have v2 := dOf_val (fun t => V.ref (ad t)) (emptyP n k rs) (l.map (·.2))
        rw [y, v2, if_pos R.start, if_pos R.start] at v1
        cases v1
      have sAll : Same H H5 := (s2.trans su).trans s5
      clear hM3 hM hd' keep su hd2
      -- rows = {}
      refine fun p6 g6 => ?_
      have n6 : d ≠ p6 := ne_of_none O5.dd g6
      have hd6 : upd H5 p6 (.dK []) d = some (.dT (dOf (l.map (·.2)) fun t => .ref (ad t))) := by rw [upd_ne n6]; exact O5.dd
      refine ⟨d, _, hd6, trivial, fun od => ?_⟩
      refine ⟨_, rfl, d, od, rfl, .inr ⟨_, upd_same, ?_⟩⟩
      refine for_keysT (fun i σ H' => ∃ kn m qv, σ = [some (.int (n : Int)), some (.int (k : Int)), some (.int (g : Int)), some (.ref a), some (.ref d), some (.ref p2), kn, some (.ref p5), some (.ref p6), none] ∧ H' d = some (.frz od (.dT (dOf (l.map (·.2)) fun t => .ref (ad t)))) ∧ Upto (l.map (·.2)) c i m ∧ H' p6 = some (.dK (rOf qv m)) ∧
          (∀ t ∈ (l.map (·.2)).take i, RowAt H' (qv (c t)) (rowK n k g rs c t)) ∧ ∀ b o, H5 b = some o → b ≠ d → H' b = some o)
        ⟨kn, 0, fun _ => .non, rfl, upd_same, ⟨fun t ht => absurd ht List.not_mem_nil, fun j hj => absurd hj (Nat.not_lt_zero _)⟩, (by rw [upd_ne (Ne.symm n6), upd_same]; rfl), fun t ht => absurd ht List.not_mem_nil, fun b o e hb => by rw [upd_ne hb, upd_ne (ne_of_none e g6)]; exact e⟩
        (fun i σ H' _ ⟨_, _, _, _, h, _⟩ => h) ?_ ?_
      · rintro i ky v qa σ H' hkv ⟨kn, m, qv, rfl, hd', U, hM, hrow, keep⟩ hq
        obtain ⟨t, ht, rfl, rfl⟩ := dOf_get hkv
        rw [keyT_v] at hq
        have htD : t ∈ l.map (·.2) := List.mem_of_getElem? ht
        have hi : i < (l.map (·.2)).length := (List.getElem?_eq_some_iff.mp ht).1
        have tsn := take_snoc ht
        have hk' := keep _ _ h5 n5
        have hT' := keep _ _ hM5 (Ne.symm n2)
        obtain ⟨ps, hl, hps, hpp⟩ := O5.ls t htD
        have hl' := keep _ _ hl (ne_of hl O5.dd (fun z => nomatch z))
        have tups : ∀ b xs, H5 b = some (.tup xs) → H' b = some (.tup xs) := fun b xs e => keep b _ e (ne_of e O5.dd (fun z => nomatch z))
        -- [taken[known]]
        refine ⟨_, rfl, _, rfl, p2, _, rfl, dget_t (f := fun t => .bl (takenP n k g rs t)) (.inl hT') hq htD, (by show 1 ≤ sizeLine; decide), fun p3 g3 => ?_⟩
        have s3 : Same H' (upd H' p3 (.lst [.bl (takenP n k g rs t)])) := same_new g3 _
        -- [kinds[longer] for longer in onward[known]]
        refine ⟨_, rfl, _, rfl, d, _, rfl, dget_t (f := fun t => .ref (ad t)) (.inr ⟨od, s3 _ _ hd'⟩) (s3 _ _ hq) htD, ad t, rfl, ⟨_, SqL.of (s3 _ _ hl')⟩, fun L hL => ?_⟩
        have lx : (ps.map V.ref).length = k := by rw [List.length_map, hps]
        refine lc_list (K := K) (a := ad t) (xs := ps.map V.ref) (fun j H4 => Same (upd H' p3 (.lst [.bl (takenP n k g rs t)])) H4 ∧ H4 L = some (.lst (vN (((List.range k).map fun a => c (longerP n k rs t a)).take j)))) ⟨same_new hL _, upd_same⟩ (fun j H4 _ ⟨s4, _⟩ => SqL.of (s4 _ _ (s3 _ _ hl'))) ?_ ?_
        · rintro j x H4 hx ⟨s4, h4⟩
          rw [List.getElem?_map] at hx
          obtain ⟨pj, hpj, rfl⟩ := Option.map_eq_some_iff.mp hx
          have hj : j < k := by rw [← hps]; exact (List.getElem?_eq_some_iff.mp hpj).1
          refine ⟨rfl, ?_⟩
          refine ⟨_, rfl, _, rfl, p5, _, rfl, dget_t (f := fun t => .int (c t : Nat)) (.inl (s4 _ _ (s3 _ _ hk'))) (s4 _ _ (s3 _ _ (tups _ _ (hpp j pj hpj)))) (R.go t htD j hj), ?_⟩
          have hg : ((List.range k).map fun a => c (longerP n k rs t a))[j]? = some (c (longerP n k rs t j)) := by
            rw [List.getElem?_map, List.getElem?_range hj]
            rfl
          refine ⟨_, h4, small1000 (by rw [vN_len, List.length_take]; omega), ?_, ?_⟩
          · intro b o e
            rw [upd_ne (ne_of_none e hL)]
            exact s4 b o e
          · rw [upd_same, take_snoc hg, vN_append]
            rfl
        · rintro H4 ⟨s4, h4⟩
          have e0 : ((List.range k).map fun a => c (longerP n k rs t a)).take k = (List.range k).map fun a => c (longerP n k rs t a) := List.take_of_length_le (by rw [List.length_map, List.length_range]; exact Nat.le_refl _)
          rw [lx, e0] at h4
          refine ⟨p3, L, _, _, rfl, rfl, SqL.of (s4 _ _ upd_same), SqL.of h4, Nat.le_of_lt (small1000 (by rw [vN_len, List.length_map, List.length_range]; show 1 + k ≤ 1000; omega)), fun p8 g8 => ?_⟩
          refine ⟨p8, _, rfl, .inl ⟨SqL.of upd_same, fun p9 g9 => ?_⟩⟩
          have s6 := ((s3.trans s4).trans (same_new g8 (.lst ([V.bl (takenP n k g rs t)] ++ vN ((List.range k).map fun a => c (longerP n k rs t a)))))).trans (same_new g9 (.tup ([V.bl (takenP n k g rs t)] ++ vN ((List.range k).map fun a => c (longerP n k rs t a)))))
          refine gen_heap (R := fun H6 => Same H' H6 ∧ H6 p9 = some (.tup (rowV (rowK n k g rs c t)))) ⟨s6, upd_same.trans rfl⟩ fun H6 hh => ?_
          obtain ⟨s7, h6⟩ := hh
          -- rows[kinds[known]] = ..
          have hM6 := s7 _ _ hM
          obtain ⟨m', U', hput⟩ : ∃ m', Upto (l.map (·.2)) c (i + 1) m' ∧ putK (rOf qv m) (Sum.inl ((c t : Nat) : Int)) (.ref p9) = rOf (fun j => if j = c t then .ref p9 else qv j) m' := by
            rcases U.next Kn.fst ht with ⟨h1, h2⟩ | ⟨h1, h2⟩
            · exact ⟨m, h2, rOf_put_old qv h1 _⟩
            · refine ⟨m + 1, h2, ?_⟩
              rw [h1]
              exact rOf_put_new qv m _
          have hm5 : m ≤ 46656 := Nat.le_of_not_lt fun hlt => by
            have z := sub_len (l := List.range m) (m := ((l.map (·.2)).take i).map c) List.nodup_range fun j hj => by
              obtain ⟨x, hx, e⟩ := U.sur j (List.mem_range.mp hj)
              exact List.mem_map.mpr ⟨x, hx, e⟩
            rw [List.length_range, List.length_map, List.length_take] at z
            omega
          refine ⟨_, rfl, _, rfl, _, rfl, p5, _, rfl, dget_t (f := fun t => .int (c t : Nat)) (.inl (s7 _ _ hk')) (s7 _ _ hq) htD, p6, _, rfl, DPut.k (k := Sum.inl ((c t : Nat) : Int)) hM6 (by rw [rOf_len, sizeLine_eq]; omega), ?_⟩
          rw [hput]
          refine ⟨some (.ref qa), m', _, rfl, by rw [upd_ne n6]; exact s7 _ _ hd', U', upd_same, fun x hx => ?_, fun b o e hb => ?_⟩
          · by_cases hxt : c x = c t
            · rw [if_pos hxt, Kn.rowk (List.mem_of_mem_take hx) htD hxt]
              exact ⟨p9, rfl, by rw [upd_ne (ne_of h6 hM6 (fun z => nomatch z))]; exact h6⟩
            · rw [if_neg hxt]
              rw [tsn] at hx
              rcases List.mem_append.mp hx with hx | hx
              · obtain ⟨q', e1, e2⟩ := hrow x hx
                refine ⟨q', e1, ?_⟩
                have z := s7 _ _ e2
                rw [upd_ne (ne_of z hM6 (fun z => nomatch z))]
                exact z
              · exact absurd (by rw [List.mem_singleton.mp hx]) hxt
          · rw [upd_ne (ne_of_none e g6)]
            exact s7 _ _ (keep b o e hb)
      · rintro σ H' ⟨kn, m, qv, rfl, hd', U, hM, hrow, keep⟩
        rw [dOf_len] at U hrow
        have Ulr : ∀ t ∈ l.map (·.2), c t < m := fun t ht => U.lt t (by rw [List.take_length]; exact ht)
        have mN : m = N := by
          refine Nat.le_antisymm (Nat.le_of_not_lt fun hlt => ?_) (Nat.le_of_not_lt fun hlt => ?_)
          · obtain ⟨t, ht, e⟩ := U.sur N hlt
            have := Kn.col.lt t (List.mem_of_mem_take ht)
            omega
          · obtain ⟨t, ht, e⟩ := Kn.col.sur m hlt
            have := Ulr t ht
            omega
        rw [List.take_length] at hrow
        refine ⟨hd', ?_⟩
        have su := same_unlock O5.dd keep
        have h7 : upd H' d (.dT (dOf (l.map (·.2)) fun t => .ref (ad t))) p6 = some (.dK (rOf qv m)) := by rw [upd_ne (Ne.symm n6)]; exact hM
        -- list(rows.values())
        refine ⟨_, rfl, p6, _, rfl, h7, fun pv gv => ?_⟩
        refine ⟨pv, p6, _, rfl, upd_same, by rw [upd_ne (ne_of_none h7 gv)]; exact h7, fun pl gl => ?_⟩
        obtain ⟨R', hRl, hRp⟩ := picked_rows (P := fun i u => ∀ t ∈ l.map (·.2), c t = i → u = rowK n k g rs c t) N fun i hi => by
          obtain ⟨t, ht, e⟩ := Kn.col.sur i hi
          exact ⟨_, fun t' ht' e' => Kn.rowk ht ht' (by rw [e, e'])⟩
        refine q _ pl _ R' (((sAll.trans su).trans (same_new gv _)).trans (same_new gl _)) upd_same ?_ ⟨l, c, N, Kn, hRl, fun t ht => ?_⟩
        · refine paired_of (by rw [List.length_map, rOf_len, hRl, mN]) fun i x r h1 h2 => ?_
          unfold rOf at h1
          rw [List.map_map, List.getElem?_map] at h1
          obtain ⟨j, hj, rfl⟩ := Option.map_eq_some_iff.mp h1
          have hjm : i < m := by have z := (List.getElem?_eq_some_iff.mp hj).1; rw [List.length_range] at z; exact z
          rw [List.getElem?_range hjm] at hj
          cases Option.some.inj hj
          obtain ⟨t, ht, e⟩ := Kn.col.sur i (by omega)
          have er := hRp i r h2 t ht e
          obtain ⟨q', e1, e2⟩ := hrow t ht
          rw [e] at e1
          rw [er]
          refine ⟨q', e1, ?_⟩
          have z : upd H' d (.dT (dOf (l.map (·.2)) fun t => .ref (ad t))) q' = some (.tup (rowV (rowK n k g rs c t))) := by rw [upd_ne (ne_of e2 hd' (fun z => nomatch z))]; exact e2
          exact same_new gl _ _ _ (same_new gv _ _ _ z)
        · have hlt : c t < R'.length := by rw [hRl]; exact Kn.col.lt t ht
          have z := List.getElem?_eq_getElem hlt
          rw [z, hRp _ _ z t ht rfl]
end
end Dk

/-! ### count_longer -/
namespace Dk
open PySem PySem.Spec PyProof.Rows L2 Mt
open PySem.W (Codec)
def spCLonger (K : PySem.W.Frag) : Sp := fun vs H Q _ => ∃ (a b : Addr) (p : Nat) (r : Bool × List Nat) (ws : List Nat), vs = [.ref a, .ref b, .int (p : Int)] ∧ H a = some (.tup (rowV r)) ∧ SqL K H b (vN ws) ∧ 0 < p ∧ r.2.length ≤ 4 ∧ (∀ j ∈ r.2, j < ws.length) ∧
  ∀ H', Same H H' → Q (.int (((r.2.map fun j => ws.getD j 0).sum % p : Nat) : Int)) H'
def scCLongerC (s : Stmt) : Scope := match defBody s with
  | [.Return (some (.BinOp (.Call _ [.ListComp _ _ sc _] _ _) _ _ _)) _] => sc
  | _ => { kind := .function, names := [], isGenerator := false, isCoroutine := false }
theorem bkCLonger : BlkOk ["kind", "ways", "p", "longer"] (defScope s_count_longer) (scCLongerC s_count_longer) [("longer", 3)] := blkOk_by (by decide +kernel)
/-- inside a comprehension: the text's objects named from outside -/
theorem ix_listK {X : Cx} {K0 : PySem.W.Frag} (hK : X.K = K0) : IxR X (rIxL K0) := by
  subst hK
  exact ix_list
theorem ix_tupK {X : Cx} {K0 : PySem.W.Frag} (hK : X.K = K0) : IxR X (rIxT K0) := by
  subst hK
  exact ix_tup
theorem cut_row (r : Bool × List Nat) : cutV (rowV r) (some 1) none = vN r.2 := by
  unfold cutV rowV
  have e : HT.sIx (V.bl r.1 :: vN r.2).length 0 (some 1) = 1 := by
    have z := HT.sIx_nat (V.bl r.1 :: vN r.2).length 0 1
    rw [List.length_cons] at z ⊢
    exact z.trans (by omega)
  rw [e, HT.sIx_none]
  show (vN r.2).take _ = vN r.2
  exact List.take_of_length_le (by rw [List.length_cons]; omega)
theorem sum_casts : ∀ l : List Nat, (casts l).sum = ((l.sum : Nat) : Int)
  | [] => rfl
  | a :: l => by
    show ((a : Int) :: casts l).sum = _
    rw [List.sum_cons, List.sum_cons, sum_casts l, Int.natCast_add]
section
variable {P : Program} {w : World} {K : PySem.W.Frag} {mg : Str → Option Value} {base : Heap}
theorem scCLonger : FnScope ["kind", "ways", "p", "longer"] ["kind", "ways", "p"] (defScope s_count_longer) := ⟨rfl, rfl, rfl, by decide +kernel, rfl, by decide +kernel, by decide +kernel⟩
set_option maxHeartbeats 8000000 in
theorem fn_clonger (D : Df K mg "count_longer" s_count_longer) (T : Txt mg) : Fn P w K mg base "count_longer" 1 ["kind", "ways", "p"] (spCLonger K) := by
  obtain ⟨f, fd, F, hm⟩ := D
  refine ⟨f, fd, ?_, hm, F.kp, F.binds fun _ _ _ _ _ _ us hl => match us, hl with | [_, _, _], _ => rfl⟩
  refine F.ok scCLonger (fun vs H Q E h => ?_) (fun cdv A outer s H vs Q E hr h => ?_)
  · obtain ⟨a, b, p, r, ws, rfl, _⟩ := h
    rfl
  · obtain ⟨a, b, p, r, ws, rfl, hA, hB, p0, hl, hj, q⟩ := h
    refine ⟨_, pss_one (ps_ret (pe_op op_mod (pe_callB (cr_sum rfl) rfl T.b_sum boot_sum (pa_cons (pe_lc rfl scCLonger.nd (pi_tup (pe_slice sl_tup (pv 0) (po_some pe_int) po_none)) bkCLonger
      (fun _ _ _ _ _ => pg_name (i := 3) scCLonger.nd rfl (Or.inl rfl)) (fun _ _ _ _ _ => pts_nil)
      (fun _ _ _ _ _ => pe_ix (ix_listK (K0 := K) rfl) (pv 1) (pv 3) (fun _ _ => rfl))) pa_nil)) (pv 2))), ?_⟩
    refine ⟨_, rfl, _, rfl, a, _, rfl, SqT.of hA, ?_, fun c hc => ?_⟩
    · rintro ⟨z, _⟩
      have y := HT.sIx_nat (rowV r).length 0 1
      have x : (rowV r).length = (vN r.2).length + 1 := rfl
      have z : HT.sIx (rowV r).length 0 (some ((1 : Nat) : Int)) = 0 := z
      omega
    rw [cut_row]
    have s0 : Same H (upd H c (.tup (vN r.2))) := same_new hc _
    refine ⟨c, rfl, ⟨_, SqT.of upd_same⟩, fun L hL => ?_⟩
    have lr : (r.2.map fun j => ws.getD j 0).length = r.2.length := List.length_map _
    refine lc_tup (K := K) (a := c) (xs := vN r.2) (fun i H' => Same (upd H c (.tup (vN r.2))) H' ∧ H' L = some (.lst (vN ((r.2.map fun j => ws.getD j 0).take i)))) ⟨same_new hL _, upd_same⟩ (fun i H' _ ⟨s1, _⟩ => SqT.of (s1 _ _ upd_same)) ?_ ?_
    · rintro i x H' hx ⟨s1, h1⟩
      obtain ⟨j, hj1, rfl⟩ := vN_of hx
      have hi : i < r.2.length := (List.getElem?_eq_some_iff.mp hj1).1
      have hjw := hj j (List.mem_of_getElem? hj1)
      have hg : ws[j]? = some (ws.getD j 0) := by
        rw [List.getD_eq_getElem?_getD, List.getElem?_eq_getElem hjw]
        rfl
      have hg2 : (r.2.map fun j => ws.getD j 0)[i]? = some (ws.getD j 0) := by rw [List.getElem?_map, hj1]; rfl
      refine ⟨rfl, ?_⟩
      refine ⟨_, rfl, _, rfl, b, _, _, _, rfl, rfl, (s0.trans s1).seq hB, atI_nat (vN_get hg), ?_⟩
      refine ⟨_, h1, small1000 (by rw [vN_len, List.length_take]; omega), ?_, ?_⟩
      · intro b' o e
        rw [upd_ne (ne_of_none e hL)]
        exact s1 b' o e
      · rw [upd_same, take_snoc hg2, vN_append]
        rfl
    · rintro H' ⟨s1, h1⟩
      rw [vN_len, List.take_of_length_le (by rw [lr]; exact Nat.le_refl _)] at h1
      refine ⟨L, casts (r.2.map fun j => ws.getD j 0), rfl, SqL.of h1, _, rfl, _, _, rfl, rfl, (by omega), ?_⟩
      rw [sum_casts]
      exact q H' (s0.trans s1)
end
end Dk

/-! ### count_taken -/
namespace Dk
open PySem PySem.Spec PyProof.Rows L2 Mt
open PySem.W (Codec)
def spCount (K : PySem.W.Frag) : Sp := fun vs H Q _ => ∃ (a : Addr) (e p z : Nat) (xs : List V) (R : List (Bool × List Nat)), vs = [.ref a, .int (e : Int), .int (p : Int)] ∧ H a = some (.lst xs) ∧ Paired (RowAt H) xs R ∧ R.length ≤ 46656 ∧ (∀ r ∈ R, r.2.length ≤ 4 ∧ ∀ j ∈ r.2, j < R.length) ∧ e ≤ 1000 ∧ 2 ≤ p ∧ (waysP R p e)[0]? = some z ∧
  ∀ H', Q (.int (z : Int)) H'
def scCountC (s : Stmt) : Scope := match ((defBody s)[1]? : Option Stmt) with
  | some (.For _ _ [.Assign _ (.ListComp _ _ sc _) _] _ _) => sc
  | _ => { kind := .function, names := [], isGenerator := false, isCoroutine := false }
theorem bkCount1 : BlkOk ["kinds", "length", "p", "ways", "letters", "kind"] (defScope s_count_taken) (scSet s_count_taken 0) [("kind", 5)] := blkOk_by (by decide +kernel)
theorem bkCount2 : BlkOk ["kinds", "length", "p", "ways", "letters", "kind"] (defScope s_count_taken) (scCountC s_count_taken) [("kind", 5)] := blkOk_by (by decide +kernel)
theorem paired_get {α β : Type} {P : α → β → Prop} : ∀ {xs : List α} {ys : List β}, Paired P xs ys → ∀ {i : Nat} {x : α}, xs[i]? = some x → ∃ y, ys[i]? = some y ∧ P x y
  | _, _, .nil, i, x, h => by simp at h
  | _, _, .cons h _, 0, x, e => by cases Option.some.inj e; exact ⟨_, rfl, h⟩
  | _, _, .cons _ t, i + 1, x, e => paired_get t (i := i) e
theorem rows_few {n k g : Nat} {rs : List Nat} {R : List (Bool × List Nat)} (h : Rows n k g rs R) : R.length ≤ 46656 := by
  obtain ⟨l, c, N, Kn, e, _⟩ := h.ex
  have y := few_all Kn.mok Kn.all
  have z := sub_len (l := List.range N) (m := (l.map (·.2)).map c) List.nodup_range fun j hj => by
    obtain ⟨x, hx, e⟩ := Kn.col.sur j (List.mem_range.mp hj)
    exact List.mem_map.mpr ⟨x, hx, e⟩
  rw [List.length_range, List.length_map, List.length_map] at z
  omega
section
variable {P : Program} {w : World} {K : PySem.W.Frag} {mg : Str → Option Value} {base : Heap}
theorem scCount : FnScope ["kinds", "length", "p", "ways", "letters", "kind"] ["kinds", "length", "p"] (defScope s_count_taken) := ⟨rfl, rfl, rfl, by decide +kernel, rfl, by decide +kernel, by decide +kernel⟩
set_option maxHeartbeats 8000000 in
theorem fn_ctaken (D : Df K mg "count_taken" s_count_taken) (T : Txt mg) (G : Fn P w K mg base "count_longer" 1 ["kind", "ways", "p"] (spCLonger K)) : Fn P w K mg base "count_taken" 2 ["kinds", "length", "p"] (spCount K) := by
  obtain ⟨f, fd, F, hm⟩ := D
  refine ⟨f, fd, ?_, hm, F.kp, F.binds fun _ _ _ _ _ _ us hl => match us, hl with | [_, _, _], _ => rfl⟩
  refine F.ok scCount (fun vs H Q E h => ?_) (fun cdv A outer s H vs Q E hr h => ?_)
  · obtain ⟨a, e, p, z, xs, R, rfl, _⟩ := h
    rfl
  · obtain ⟨a, e, p, z, xs, R, rfl, hA, hR, hRl, hrow, e4, p2, hz, q⟩ := h
    refine ⟨_, pss_cons (ps_set (i := 3) scCount.nd rfl (Or.inr rfl) (pe_lc rfl scCount.nd (pi_list (pv 0)) bkCount1 (fun _ _ _ _ _ => pg_name (i := 5) scCount.nd rfl (Or.inl rfl)) (fun _ _ _ _ _ => pts_nil)
        (fun _ _ _ _ _ => pe_ifExp (pt_val (pe_ix (ix_tupK (K0 := K) rfl) (pv 5) pe_int (fun _ _ => rfl))) pe_int pe_int)))
      (pss_cons (ps_for PassesOwn.never rfl (pi_range1 rfl T.b_range (pa_cons (pv 1) pa_nil)) (pg_name (i := 4) scCount.nd rfl (Or.inl rfl))
        (pss_one (ps_set (i := 3) scCount.nd rfl (Or.inr rfl) (pe_lc rfl scCount.nd (pi_list (pv 0)) bkCount2 (fun _ _ _ _ _ => pg_name (i := 5) scCount.nd rfl (Or.inl rfl)) (fun _ _ _ _ _ => pts_nil)
          (fun _ _ _ _ _ => pe_fn G hr (pa_cons (pv 5) (pa_cons (pv 3) (pa_cons (pv 2) pa_nil))))))))
      (pss_one (ps_ret (pe_ix ix_list (pv 3) pe_int (fun _ _ => rfl))))), ?_⟩
    have hxl : xs.length = R.length := Paired.length hR
    have small : ∀ (l : List Nat) (i : Nat), l.length = R.length → (vN (l.take i)).length < sizeLine := fun l i hl => by rw [vN_len, List.length_take, sizeLine_eq]; omega
    have c0l : (c0 R).length = R.length := ways_len R p 0
    -- ways = [1 if kind[0] else 0 for kind in kinds]
    refine ⟨_, rfl, a, rfl, ⟨_, SqL.of hA⟩, fun L hL => ?_⟩
    refine lc_list (K := K) (a := a) (xs := xs) (fun i H' => Same H H' ∧ H' L = some (.lst (vN ((c0 R).take i)))) ⟨same_new hL _, upd_same⟩ (fun i H' _ ⟨s1, _⟩ => SqL.of (s1 _ _ hA)) ?_ ?_
    · rintro i x H' hx ⟨s1, h1⟩
      obtain ⟨r, hr1, c, rfl, hc⟩ := paired_get hR hx
      have hg : (c0 R)[i]? = some (if r.1 = true then 1 else 0) := by unfold c0; rw [List.getElem?_map, hr1]; rfl
      have put : ∀ y : Nat, (if r.1 = true then 1 else 0) = y → ∃ acc, H' L = some (.lst acc) ∧ acc.length < sizeLine ∧ Same H (upd H' L (.lst (acc ++ [V.int (y : Nat)]))) ∧ upd H' L (.lst (acc ++ [V.int (y : Nat)])) L = some (.lst (vN ((c0 R).take (i + 1)))) := fun y hy => by
        refine ⟨_, h1, small _ _ c0l, ?_, ?_⟩
        · intro b o e
          rw [upd_ne (ne_of_none e hL)]
          exact s1 b o e
        · rw [upd_same, take_snoc hg, vN_append, hy]
          rfl
      refine ⟨rfl, ?_⟩
      refine ⟨_, rfl, c, _, _, _, rfl, rfl, SqT.of (s1 _ _ hc), atI_nat (j := 0) (show (rowV r)[0]? = some (.bl r.1) from rfl), _, rfl, ?_⟩
      refine ite2 (fun b => ?_) (fun b => ?_)
      · exact put 1 (if_pos b)
      · exact put 0 (if_neg b)
    · rintro H1 ⟨s1, h1⟩
      rw [List.take_of_length_le (by rw [c0l, hxl]; exact Nat.le_refl _)] at h1
      -- for letters in range(length)
      refine ⟨_, rfl, _, rfl, (by omega), (by omega), ?_⟩
      refine for_range (lo := 0) (fun i σ H' => Same H H' ∧ ∃ (wl : Addr) (lt : Option V), σ = [some (.ref a), some (.int (e : Int)), some (.int (p : Int)), some (.ref wl), lt, none] ∧ H' wl = some (.lst (vN (waysP R p i))))
        ⟨s1, L, none, rfl, h1⟩ ?_ ?_
      · rintro i σ H2 hi ⟨s2, wl, lt, rfl, h2⟩
        -- ways = [count_longer(kind, ways, p) for kind in kinds]
        refine ⟨_, rfl, a, rfl, ⟨_, SqL.of (s2 _ _ hA)⟩, fun L2 hL2 => ?_⟩
        have wl1 : (waysP R p (i + 1)).length = R.length := ways_len R p (i + 1)
        have wl0 : (waysP R p i).length = R.length := ways_len R p i
        refine lc_list (K := K) (a := a) (xs := xs) (fun j H' => Same H2 H' ∧ H' L2 = some (.lst (vN ((waysP R p (i + 1)).take j)))) ⟨same_new hL2 _, upd_same⟩ (fun j H' _ ⟨s3, _⟩ => SqL.of (s3 _ _ (s2 _ _ hA))) ?_ ?_
        · rintro j x H' hx ⟨s3, h3⟩
          obtain ⟨r, hr1, c, rfl, hc⟩ := paired_get hR hx
          obtain ⟨r4, rj⟩ := hrow r (List.mem_of_getElem? hr1)
          have hg : (waysP R p (i + 1))[j]? = some ((r.2.map fun j => (waysP R p i).getD j 0).sum % p) := by
            show (cstep R p (waysP R p i))[j]? = _
            unfold cstep
            rw [List.getElem?_map, hr1]
            rfl
          refine ⟨rfl, ?_⟩
          refine ⟨_, rfl, _, rfl, _, rfl, c, wl, p, r, waysP R p i, rfl, s3 _ _ (s2 _ _ hc), SqL.of (s3 _ _ h2), (by omega), r4, (by rw [wl0]; exact rj), fun H4 s4 => ?_⟩
          refine ⟨_, s4 _ _ h3, small _ _ wl1, ?_, ?_⟩
          · intro b o e
            rw [upd_ne (ne_of_none e hL2)]
            exact s4 _ _ (s3 b o e)
          · rw [upd_same, take_snoc hg, vN_append]
            rfl
        · rintro H' ⟨s3, h3⟩
          rw [List.take_of_length_le (by rw [wl1, hxl]; exact Nat.le_refl _)] at h3
          exact ⟨s2.trans s3, L2, _, rfl, h3⟩
      · rintro σ H2 ⟨s2, wl, lt, rfl, h2⟩
        rw [Int.toNat_natCast] at h2
        exact ⟨_, rfl, wl, _, _, _, rfl, rfl, SqL.of h2, atI_nat (j := 0) (vN_get hz), q H2⟩
end
end Dk

/-! ### count -/
namespace Dk
open PySem PySem.Spec PyProof.Rows L2 Mt
open PySem.W (Codec)
def spMain (K : PySem.W.Frag) : Sp := fun vs H Q _ => ∃ (n k g e p : Int) (a : Addr) (rs : List Int), vs = [.int n, .int k, .int g, .int e, .int p, .ref a] ∧ SqL K H a (rs.map V.int) ∧ PyRd11.count_asked n k g e p rs = true ∧
  ∀ (H' : Hp) (b : Addr), H' b = some (.lst ((PyRd11.count n k g e p rs).map V.int)) → Q (.ref b) H'
section
variable {P : Program} {w : World} {K : PySem.W.Frag} {mg : Str → Option Value} {base : Heap}
theorem scMain : FnScope ["n", "k", "good", "length", "p", "rules"] ["n", "k", "good", "length", "p", "rules"] (defScope s_count) := ⟨rfl, rfl, rfl, by decide +kernel, rfl, by decide +kernel, by decide +kernel⟩
set_option maxHeartbeats 8000000 in
theorem ok_main {f : Addr} {fd : FuncData} (F : Fun K "count" "count" s_count f fd) (T : Txt mg) (FS : Fn P w K mg base "sizes_fit" 6 ["n", "k"] spSizes) (FI : Fn P w K mg base "in_range" 6 ["number", "least", "most"] spInR) (FR : Fn P w K mg base "rules_fit" 6 ["n", "k", "rules"] (spRules K)) (FD : Fn P w K mg base "good_fits" 6 ["n", "good"] spGood)
    (FK : Fn P w K mg base "kinds_of_words" 6 ["n", "k", "good", "rules"] (spKinds K)) (FC : Fn P w K mg base "count_taken" 6 ["kinds", "length", "p"] (spCount K)) : FnOk P w K mg base CX0 7 f fd ["n", "k", "good", "length", "p", "rules"] (spMain K) := by
  refine F.ok scMain (fun vs H Q E h => ?_) (fun cdv A outer s H vs Q E hr h => ?_)
  · obtain ⟨n, k, g, e, p, a, rs, rfl, _⟩ := h
    rfl
  · obtain ⟨n, k, g, e, p, a, rs, rfl, hA, hask, q⟩ := h
    have hu := hu_of hr
    refine ⟨_, pss_cons (ps_if (pw_or (pt_not (pt_val (pe_fn FS hr (pa_cons (pv 0) (pa_cons (pv 1) pa_nil))))) (pw_or1 (pt_not (pt_val (pe_fn FI hr (pa_cons (pv 3) (pa_cons pe_int (pa_cons (pe_gi T.c_LONGEST_COUNTED) pa_nil)))))))).pt (pss_one (ps_ret (pe_lst (pa_cons (pe_gi T.c_OUT_OF_RANGE) pa_nil)))) pss_nil)
      (pss_cons (ps_if (pt_not (pt_val (pe_fn FI hr (pa_cons (pv 4) (pa_cons (pe_gi T.c_LEAST_MODULUS) (pa_cons (pe_gi T.c_MOST_MODULUS) pa_nil)))))) (pss_one (ps_ret (pe_lst (pa_cons (pe_gi T.c_OUT_OF_RANGE) pa_nil)))) pss_nil)
      (pss_cons (ps_if (pw_or (pt_not (pt_val (pe_fn FR hr (pa_cons (pv 0) (pa_cons (pv 1) (pa_cons (pv 5) pa_nil)))))) (pw_or1 (pt_not (pt_val (pe_fn FD hr (pa_cons (pv 0) (pa_cons (pv 2) pa_nil))))))).pt (pss_one (ps_ret (pe_lst (pa_cons (pe_gi T.c_NOT_AS_TOLD) pa_nil)))) pss_nil)
      (pss_one (ps_ret (pe_lst (pa_cons (pe_fn FC hr (pa_cons (pe_fn FK hr (pa_cons (pv 0) (pa_cons (pv 1) (pa_cons (pv 2) (pa_cons (pv 5) pa_nil))))) (pa_cons (pv 3) (pa_cons (pv 4) pa_nil)))) pa_nil)))))), ?_⟩
    obtain ⟨ak1, ak2, ak3, ak4, _⟩ := count_ask hask
    obtain ⟨rn, erN, rb, r30, n0, n1, k0, k1, hsz⟩ := rules_ask ak1
    obtain ⟨g0, g1⟩ := natural_iff.mp ak2
    obtain ⟨e0, e1⟩ := natural_iff.mp ak3
    obtain ⟨p0, p1⟩ := natural_iff.mp ak4
    obtain ⟨gn, hgn⟩ : ∃ gn : Nat, g = (gn : Int) := ⟨g.toNat, by omega⟩
    obtain ⟨el, hel⟩ : ∃ el : Nat, e = (el : Int) := ⟨e.toNat, by omega⟩
    obtain ⟨pn, hpn⟩ : ∃ pn : Nat, p = (pn : Int) := ⟨p.toNat, by omega⟩
    -- a refusal
    have out : ∀ (H1 : Hp) (z : Int), PyRd11.count n k g e p rs = [z] → ([V.int z].length ≤ sizeLine ∧ ∀ b, H1 b = none → Q (.ref b) (upd H1 b (.lst [V.int z]))) := fun H1 z hz =>
      ⟨by show 1 ≤ sizeLine; decide, fun b _ => q _ b (by rw [hz, upd_same]; rfl)⟩
    refine ⟨_, rfl, _, rfl, n, k, rfl, _, rfl, ?_⟩
    refine ite2 (fun c => iteT ?_) (fun c => ?_)
    · refine out H (-2) (count_two ?_)
      unfold Rd11.countOk
      rw [neg_true c, Bool.false_and]
    have hs := neg_false c
    refine ⟨_, rfl, e, 0, 1000, rfl, _, rfl, ?_⟩
    refine ite2 (fun c2 => ?_) (fun c2 => ?_)
    · refine out H (-2) (count_two ?_)
      unfold Rd11.countOk
      rw [neg_true c2, Bool.false_and, Bool.and_false]
    have hs2 := neg_false c2
    refine ⟨_, rfl, p, 2, 2147483647, rfl, _, rfl, ?_⟩
    refine ite2 (fun c3 => ?_) (fun c3 => ?_)
    · refine out H (-2) (count_two ?_)
      unfold Rd11.countOk
      rw [neg_true c3, Bool.and_false, Bool.and_false]
    have hs3 := neg_false c3
    have hfo : Rd11.countOk (Rd11Neutral.int32 n) (Rd11Neutral.int32 k) (Rd11Neutral.int32 e) (Rd11Neutral.int32 p) = true := by
      unfold Rd11.countOk
      rw [hs, hs2, hs3]
      rfl
    obtain ⟨ee, _, ee2⟩ := int32_small e0 e1 (by decide) hs2
    obtain ⟨pe, pe1, pe2⟩ := int32_small p0 p1 (by decide) hs3
    obtain ⟨en, ek, N, Kk, hN, hK, N1, N5, K1, K4, hlen⟩ := hsz hs
    subst erN
    -- what is given
    have hmo : Rd11.machineOk (Rd11Neutral.int32 n) (Rd11Neutral.int32 k) (Rd11Neutral.nats (casts rn)) g.toNat = (rulesFit N Kk rn && decide (gn < 2 ^ N)) := by
      unfold Rd11.machineOk
      rw [en, ek, hN, hK, hgn, nats_casts, rulesFit_eq hlen, Int.toNat_natCast, Int.toNat_natCast]
    refine ⟨_, rfl, _, rfl, _, rfl, N, Kk, a, rn, (by rw [hN, hK]; rfl), hA, r30, fun H1 s1 => ⟨_, rfl, ?_⟩⟩
    refine ite2 (fun c3 => iteT ?_) (fun c3 => ?_)
    · refine out H1 (-3) (count_three hfo ?_)
      rw [hmo, neg_true c3, Bool.false_and]
    have hf := neg_false c3
    refine ⟨_, rfl, _, rfl, N, gn, (by rw [hN, hgn]; rfl), _, rfl, ?_⟩
    refine ite2 (fun c4 => ?_) (fun c4 => ?_)
    · refine out H1 (-3) (count_three hfo ?_)
      rw [hmo, neg_true c4, Bool.and_false]
    have hg := neg_false c4
    have M : MOk N Kk rn := ⟨N1, N5, hlen, hf⟩
    have hst : PyRd11.count n k g e p (casts rn) = [((Rd11.countOf ⟨N, Kk, rn, gn⟩ el pn : Nat) : Int)] := by
      rw [count_four hfo (by rw [hmo, hf, hg]; rfl), ee, pe, en, ek, hN, hK, hgn, hel, hpn, nats_casts]
      rfl
    -- count_taken(kinds_of_words(..), length, p)
    refine ⟨_, rfl, _, rfl, _, rfl, _, rfl, N, Kk, gn, a, rn, (by rw [hN, hK, hgn]; rfl), s1.seq hA, M, K1, K4, fun H3 b xs R s3 hp hR hRows => ?_⟩
    refine ⟨_, rfl, _, rfl, b, el, pn, _, xs, R, (by rw [hel, hpn]; rfl), hp, hR, rows_few hRows, fun r hr => ?_, (by omega), (by omega), count_done hRows (by omega) el, fun H4 => out H4 _ hst⟩
    obtain ⟨z1, z2⟩ := hRows.below hr
    exact ⟨by omega, z2⟩
end
end Dk

/-! ### what the top has written -/
namespace Dk
open PySem PySem.Spec PyProof.Rows L2 Mt
open PySem.W (Codec)
section
variable {P : Program} {w : World} {K : PySem.W.Frag} {h : Heap} {mg : Str → Option Value}
theorem df_mk {x : Str} {st : Stmt} {f : Addr} {oc : Value} {od an : Option Addr} {sl : Array (Option Value)} {kV dc pm cd ct : Value} (X : K.In h) (G : h.Ns mainGlobals mg) (a : PySem.W.nsIn K mainGlobals x = some (some (.ref f)))
    (l : K.lookup f = some ⟨oc, od, .func (PySem.W.fnOf x x (defArgs st) (defBody st) (defScope st) .none kV dc pm an cd ct), sl⟩) (c : PySem.W.codeIn K cd x = true) (k : PySem.W.keepIn K (.ref f) = true) : Df K mg x st :=
  ⟨f, _, fun_mk l c k, PySem.W.mg_of X G a⟩
theorem ii_mk {x : Str} {i : Int} {t : Tok} (X : K.In h) (G : h.Ns mainGlobals mg) (a : PySem.W.nsIn K mainGlobals x = some (some (.int i t))) : IsI mg x i := ⟨t, PySem.W.mg_of X G a⟩
theorem is_mk {x z : Str} {t : Tok} (X : K.In h) (G : h.Ns mainGlobals mg) (a : PySem.W.nsIn K mainGlobals x = some (some (.str z t))) : IsS mg x z := ⟨t, PySem.W.mg_of X G a⟩
abbrev DfOf (_ : K.In h) (mg : Str → Option Value) (x : Str) (st : Stmt) : Prop := Df K mg x st
theorem main_mk {fa f : Addr} {oc : Value} {od an : Option Addr} {sl : Array (Option Value)} {kV dc pm cd ct : Value} (X : K.In h) (G : h.Ns mainGlobals mg) (hfa : mg "count" = some (.ref fa)) (a : PySem.W.nsIn K mainGlobals "count" = some (some (.ref f)))
    (l : K.lookup f = some ⟨oc, od, .func (PySem.W.fnOf "count" "count" (defArgs s_count) (defBody s_count) (defScope s_count) .none kV dc pm an cd ct), sl⟩) (c : PySem.W.codeIn K cd "count" = true) (k : PySem.W.keepIn K (.ref f) = true)
    (R : ∀ (base : Heap) (fd : FuncData), Fun K "count" "count" s_count fa fd → FnOk P w K mg base CX0 7 fa fd ["n", "k", "good", "length", "p", "rules"] (spMain K)) :
    ∃ fd : FuncData, (∀ (s : Shared) (us : List Value), us.length = (["n", "k", "good", "length", "p", "rules"] : List Str).length → BindsTo s fd ⟨us, []⟩ ((["n", "k", "good", "length", "p", "rules"] : List Str).zip us)) ∧ ∀ base : Heap, K.In base → base.Ns mainGlobals mg → FnOk P w K mg base CX0 7 fa fd ["n", "k", "good", "length", "p", "rules"] (spMain K) := by
  have e := hfa.symm.trans (PySem.W.mg_of X G a)
  cases e
  exact ⟨PySem.W.fnOf "count" "count" (defArgs s_count) (defBody s_count) (defScope s_count) .none kV dc pm an cd ct, fun s us hu => match us, hu with | [_, _, _, _, _, _], _ => .of_eq rfl, fun base _ _ => R base _ (fun_mk l c k)⟩
theorem all_mk {fa : Addr} {fd : FuncData} {base : Heap} (F : Fun K "count" "count" s_count fa fd) (T : Txt mg) (d_empty_table : Df K mg "empty_table" s_empty_table) (d_longer_table : Df K mg "longer_table" s_longer_table) (d_crossing_state : Df K mg "crossing_state" s_crossing_state) (d_leaving_state : Df K mg "leaving_state" s_leaving_state) (d_is_taken : Df K mg "is_taken" s_is_taken) (d_reach_tables : Df K mg "reach_tables" s_reach_tables) (d_kinds_of_words : Df K mg "kinds_of_words" s_kinds_of_words) (d_part_kinds : Df K mg "part_kinds" s_part_kinds) (d_finer_marks : Df K mg "finer_marks" s_finer_marks) (d_number_kinds : Df K mg "number_kinds" s_number_kinds) (d_count_taken : Df K mg "count_taken" s_count_taken) (d_count_longer : Df K mg "count_longer" s_count_longer) (d_goes_right : Df K mg "goes_right" s_goes_right) (d_signed : Df K mg "signed" s_signed) (d_in_range : Df K mg "in_range" s_in_range) (d_sizes_fit : Df K mg "sizes_fit" s_sizes_fit) (d_rules_fit : Df K mg "rules_fit" s_rules_fit) (d_rule_fits : Df K mg "rule_fits" s_rule_fits) (d_good_fits : Df K mg "good_fits" s_good_fits) : FnOk P w K mg base CX0 7 fa fd ["n", "k", "good", "length", "p", "rules"] (spMain K) := by
  have gG := fn_goes (P := P) (w := w) (base := base) d_goes_right
  have gI := fn_inR (P := P) (w := w) (base := base) d_in_range (fn_signed d_signed)
  have gC := fn_longer d_longer_table T (fn_cross d_crossing_state T gG)
  have gP := fn_part (base := base) d_part_kinds T (fn_num (miB P w) d_number_kinds T) (fn_num (miT P w) d_number_kinds T) (fn_finer d_finer_marks T)
  have gK := fn_kinds d_kinds_of_words T (fn_reach d_reach_tables T (fn_empty d_empty_table T gC) (gC.mono (by decide))) (fn_taken d_is_taken T (fn_leaving d_leaving_state T gC)) (gP.mono (by decide))
  have gN := fn_ctaken d_count_taken T (fn_clonger (P := P) (w := w) (base := base) d_count_longer T)
  exact ok_main F T ((fn_sizes d_sizes_fit T gI).mono (by decide)) (gI.mono (by decide)) ((fn_rules d_rules_fit T (fn_rule d_rule_fits T gG)).mono (by decide)) ((fn_good d_good_fits).mono (by decide)) gK (gN.mono (by decide))
end
end Dk
open PySem PySem.W PyProof.Rows
set_option maxRecDepth 100000 in
set_option maxHeartbeats 0 in
theorem PySem.Challenge.cw_toandfrodesk_s08_count_holds : PySem.Challenge.rw_toandfrodesk_s08_count.Holds := by
  w_on; k_headS; (case hw => exact ⟨[.int 0, .int 0, .int 0, .int 0, .int 0, .list []], by decide +kernel, by decide +kernel⟩)
  k_fillS
  refine L2.walk_specK (r := PySem.Challenge.rw_toandfrodesk_s08_count) (k := 7) (CX := L2.CX0) (ps := ["n", "k", "good", "length", "p", "rules"]) (sp := Dk.spMain) (by decide +kernel) rfl rfl ⟨rfl, by decide, by decide⟩ (fun w h Y => PySem.W.kIn_of Y) ?F ?S (fun _ _ _ _ z => z)
  case F =>
    intro w mg fa h Y KX G hmg
    have d_empty_table : Dk.DfOf KX mg "empty_table" Dk.s_empty_table := by
      refine' Dk.df_mk KX G ?a ?l ?c ?k
      (case a => k_is); (case l => k_is); (case c => k_is); (case k => k_is)
    have d_longer_table : Dk.DfOf KX mg "longer_table" Dk.s_longer_table := by
      refine' Dk.df_mk KX G ?a ?l ?c ?k
      (case a => k_is); (case l => k_is); (case c => k_is); (case k => k_is)
    have d_crossing_state : Dk.DfOf KX mg "crossing_state" Dk.s_crossing_state := by
      refine' Dk.df_mk KX G ?a ?l ?c ?k
      (case a => k_is); (case l => k_is); (case c => k_is); (case k => k_is)
    have d_leaving_state : Dk.DfOf KX mg "leaving_state" Dk.s_leaving_state := by
      refine' Dk.df_mk KX G ?a ?l ?c ?k
      (case a => k_is); (case l => k_is); (case c => k_is); (case k => k_is)
    have d_is_taken : Dk.DfOf KX mg "is_taken" Dk.s_is_taken := by
      refine' Dk.df_mk KX G ?a ?l ?c ?k
      (case a => k_is); (case l => k_is); (case c => k_is); (case k => k_is)
    have d_reach_tables : Dk.DfOf KX mg "reach_tables" Dk.s_reach_tables := by
      refine' Dk.df_mk KX G ?a ?l ?c ?k
      (case a => k_is); (case l => k_is); (case c => k_is); (case k => k_is)
    have d_kinds_of_words : Dk.DfOf KX mg "kinds_of_words" Dk.s_kinds_of_words := by
      refine' Dk.df_mk KX G ?a ?l ?c ?k
      (case a => k_is); (case l => k_is); (case c => k_is); (case k => k_is)
    have d_part_kinds : Dk.DfOf KX mg "part_kinds" Dk.s_part_kinds := by
      refine' Dk.df_mk KX G ?a ?l ?c ?k
      (case a => k_is); (case l => k_is); (case c => k_is); (case k => k_is)
    have d_finer_marks : Dk.DfOf KX mg "finer_marks" Dk.s_finer_marks := by
      refine' Dk.df_mk KX G ?a ?l ?c ?k
      (case a => k_is); (case l => k_is); (case c => k_is); (case k => k_is)
    have d_number_kinds : Dk.DfOf KX mg "number_kinds" Dk.s_number_kinds := by
      refine' Dk.df_mk KX G ?a ?l ?c ?k
      (case a => k_is); (case l => k_is); (case c => k_is); (case k => k_is)
    have d_count_taken : Dk.DfOf KX mg "count_taken" Dk.s_count_taken := by
      refine' Dk.df_mk KX G ?a ?l ?c ?k
      (case a => k_is); (case l => k_is); (case c => k_is); (case k => k_is)
    have d_count_longer : Dk.DfOf KX mg "count_longer" Dk.s_count_longer := by
      refine' Dk.df_mk KX G ?a ?l ?c ?k
      (case a => k_is); (case l => k_is); (case c => k_is); (case k => k_is)
    have d_goes_right : Dk.DfOf KX mg "goes_right" Dk.s_goes_right := by
      refine' Dk.df_mk KX G ?a ?l ?c ?k
      (case a => k_is); (case l => k_is); (case c => k_is); (case k => k_is)
    have d_signed : Dk.DfOf KX mg "signed" Dk.s_signed := by
      refine' Dk.df_mk KX G ?a ?l ?c ?k
      (case a => k_is); (case l => k_is); (case c => k_is); (case k => k_is)
    have d_in_range : Dk.DfOf KX mg "in_range" Dk.s_in_range := by
      refine' Dk.df_mk KX G ?a ?l ?c ?k
      (case a => k_is); (case l => k_is); (case c => k_is); (case k => k_is)
    have d_sizes_fit : Dk.DfOf KX mg "sizes_fit" Dk.s_sizes_fit := by
      refine' Dk.df_mk KX G ?a ?l ?c ?k
      (case a => k_is); (case l => k_is); (case c => k_is); (case k => k_is)
    have d_rules_fit : Dk.DfOf KX mg "rules_fit" Dk.s_rules_fit := by
      refine' Dk.df_mk KX G ?a ?l ?c ?k
      (case a => k_is); (case l => k_is); (case c => k_is); (case k => k_is)
    have d_rule_fits : Dk.DfOf KX mg "rule_fits" Dk.s_rule_fits := by
      refine' Dk.df_mk KX G ?a ?l ?c ?k
      (case a => k_is); (case l => k_is); (case c => k_is); (case k => k_is)
    have d_good_fits : Dk.DfOf KX mg "good_fits" Dk.s_good_fits := by
      refine' Dk.df_mk KX G ?a ?l ?c ?k
      (case a => k_is); (case l => k_is); (case c => k_is); (case k => k_is)
    have c_MOST_STATES : Dk.IsI mg "MOST_STATES" (5) := by
      refine' Dk.ii_mk KX G ?a
      (case a => k_is)
    have c_MOST_LETTERS : Dk.IsI mg "MOST_LETTERS" (4) := by
      refine' Dk.ii_mk KX G ?a
      (case a => k_is)
    have c_LONGEST_COUNTED : Dk.IsI mg "LONGEST_COUNTED" (1000) := by
      refine' Dk.ii_mk KX G ?a
      (case a => k_is)
    have c_LEAST_MODULUS : Dk.IsI mg "LEAST_MODULUS" (2) := by
      refine' Dk.ii_mk KX G ?a
      (case a => k_is)
    have c_MOST_MODULUS : Dk.IsI mg "MOST_MODULUS" (2147483647) := by
      refine' Dk.ii_mk KX G ?a
      (case a => k_is)
    have c_STOP_RULE : Dk.IsI mg "STOP_RULE" (255) := by
      refine' Dk.ii_mk KX G ?a
      (case a => k_is)
    have c_NEVER : Dk.IsI mg "NEVER" (255) := by
      refine' Dk.ii_mk KX G ?a
      (case a => k_is)
    have c_OUT_OF_RANGE : Dk.IsI mg "OUT_OF_RANGE" (-2) := by
      refine' Dk.ii_mk KX G ?a
      (case a => k_is)
    have c_NOT_AS_TOLD : Dk.IsI mg "NOT_AS_TOLD" (-3) := by
      refine' Dk.ii_mk KX G ?a
      (case a => k_is)
    have b_tuple : mg "tuple" = none := by
      refine' PySem.W.mg_none_of KX G ?a
      (case a => k_is)
    have b_range : mg "range" = none := by
      refine' PySem.W.mg_none_of KX G ?a
      (case a => k_is)
    have b_len : mg "len" = none := by
      refine' PySem.W.mg_none_of KX G ?a
      (case a => k_is)
    have b_list : mg "list" = none := by
      refine' PySem.W.mg_none_of KX G ?a
      (case a => k_is)
    have b_max : mg "max" = none := by
      refine' PySem.W.mg_none_of KX G ?a
      (case a => k_is)
    have b_sum : mg "sum" = none := by
      refine' PySem.W.mg_none_of KX G ?a
      (case a => k_is)
    have b_all : mg "all" = none := by
      refine' PySem.W.mg_none_of KX G ?a
      (case a => k_is)
    have b_enumerate : mg "enumerate" = none := by
      refine' PySem.W.mg_none_of KX G ?a
      (case a => k_is)
    have T : Dk.Txt mg := ⟨c_MOST_STATES, c_MOST_LETTERS, c_LONGEST_COUNTED, c_LEAST_MODULUS, c_MOST_MODULUS, c_STOP_RULE, c_NEVER, c_OUT_OF_RANGE, c_NOT_AS_TOLD, b_tuple, b_range, b_len, b_list, b_max, b_sum, b_all, b_enumerate⟩
    refine' Dk.main_mk KX G hmg ?a ?l ?c ?k ?R
    (case a => k_is); (case l => k_is); (case c => k_is); (case k => k_is)
    case R => exact fun base fd F => Dk.all_mk F T d_empty_table d_longer_table d_crossing_state d_leaving_state d_is_taken d_reach_tables d_kinds_of_words d_part_kinds d_finer_marks d_number_kinds d_count_taken d_count_longer d_goes_right d_signed d_in_range d_sizes_fit d_rules_fit d_rule_fits d_good_fits
  case S =>
    intro K H xs a hO hwi hask hx
    obtain ⟨n, k, g, e, p, rs, u⟩ := a
    obtain ⟨x0, y0, e0, h0, g0⟩ := Dk.dw_cons hx
    obtain ⟨x1, y1, e1, h1, g1⟩ := Dk.dw_cons g0
    obtain ⟨x2, y2, e2, h2, g2⟩ := Dk.dw_cons g1
    obtain ⟨x3, y3, e3, h3, g3⟩ := Dk.dw_cons g2
    obtain ⟨x4, y4, e4, h4, g4⟩ := Dk.dw_cons g3
    obtain ⟨x5, y5, e5, h5, g5⟩ := Dk.dw_cons g4
    have ex := Dk.dw_nil g5
    subst ex
    subst e5 e4 e3 e2 e1 e0
    have z0 := Dk.dw_int h0
    have z1 := Dk.dw_int h1
    have z2 := Dk.dw_int h2
    have z3 := Dk.dw_int h3
    have z4 := Dk.dw_int h4
    obtain ⟨a5, z5, s5⟩ := Dk.dw_lst h5
    subst z0 z1 z2 z3 z4 z5
    exact ⟨n, k, g, e, p, a5, rs, rfl, s5, hask, fun H' p hp => .lst (L2.SqL.of hp) (L2.dw_ints _)⟩
#print axioms PySem.Challenge.cw_toandfrodesk_s08_count_holds

