import PyProof.Rows.All
import Wide.All
import OpenK.AllK
import Wide.FinOn
import PyProof.EqAt
import PyProof.EqKinds
import PyProof.TupleCall
import KE.BitLaws
import Open.SpecLaws
import KE.OsHead
import KE.OsGo
import KE.KSortTupG
import PySem.Challenge.RW_homeplaces_s01_answers
set_option Elab.async false
set_option Elab.async false
set_option linter.all false
set_option maxRecDepth 100000
/-! THE HAND LAYER, for ints, bools, texts, own classes, lists, tuples, dicts, comprehensions, walks over dicts, enumerate, zip, reversed, texts, calls, loops. Paste it whole ahead of your own text; what your proof does not reach may be deleted. -/
namespace L2
open PySem PySem.Spec PyProof.Rows

/-- a key: an int or a str -/
abbrev Key := Sum Int Str
def keyIs : Key → Value → Bool
  | .inl k, v => Value.isInt k v
  | .inr x, v => Value.isStrOf x v
def keyH (w : World) : Key → Int
  | .inl k => hashInt k
  | .inr x => hashStr w x
theorem keyIs_shape : ∀ {k : Key} {v : Value}, keyIs k v = true → (∃ i t, k = Sum.inl i ∧ v = Value.int i t) ∨ (∃ x t, k = Sum.inr x ∧ v = Value.str x t)
  | .inl i, v, h => by
    obtain ⟨t, e⟩ := Value.isInt_shape (k := i) (v := v) h
    exact .inl ⟨i, t, rfl, e⟩
  | .inr x, v, h => by
    obtain ⟨t, e⟩ := Value.isStrOf_shape (x := x) (v := v) h
    exact .inr ⟨x, t, rfl, e⟩
theorem keyIs_int (i : Int) (t : Tok) : keyIs (.inl i) (.int i t) = true := by simp [keyIs, Value.isInt]
theorem keyIs_str (x : Str) (t : Tok) : keyIs (.inr x) (.str x t) = true := by simp [keyIs, Value.isStrOf]
theorem key_ll (a b : Int) : decide ((Sum.inl a : Key) = Sum.inl b) = (a == b) := by
  by_cases e : a = b
  · subst e; simp
  · have h : ¬ (Sum.inl a : Key) = Sum.inl b := fun q => e (Sum.inl.inj q)
    rw [decide_eq_false h]
    exact (beq_eq_false_iff_ne.mpr e).symm
theorem key_rr (a b : Str) : decide ((Sum.inr a : Key) = Sum.inr b) = decide (a = b) := by
  by_cases e : a = b
  · subst e; simp
  · have h : ¬ (Sum.inr a : Key) = Sum.inr b := fun q => e (Sum.inr.inj q)
    rw [decide_eq_false h, decide_eq_false e]
theorem key_lr (a : Int) (b : Str) : decide ((Sum.inl a : Key) = Sum.inr b) = false := decide_eq_false (fun q => nomatch q)
theorem key_rl (a : Str) (b : Int) : decide ((Sum.inr a : Key) = Sum.inl b) = false := decide_eq_false (fun q => nomatch q)

def mixKind (prog : Program) (w : World) : PySem.KeyKind prog w Key where
  is := keyIs
  hash := keyH w
  inj := fun v a b ha hb => by
    rcases keyIs_shape ha with ⟨i, t, rfl, rfl⟩ | ⟨x, t, rfl, rfl⟩
    · rcases keyIs_shape hb with ⟨j, u, rfl, e⟩ | ⟨y, u, rfl, e⟩
      · injection e with e1 _; rw [e1]
      · exact nomatch e
    · rcases keyIs_shape hb with ⟨j, u, rfl, e⟩ | ⟨y, u, rfl, e⟩
      · exact nomatch e
      · injection e with e1 _; rw [e1]
  byValue := fun k v h => by
    rcases keyIs_shape h with ⟨i, t, rfl, rfl⟩ | ⟨x, t, rfl, rfl⟩ <;> rfl
  pyHash := fun hv h => by
    rcases keyIs_shape hv with ⟨i, t, rfl, rfl⟩ | ⟨x, t, rfl, rfl⟩
    · exact wpAny_pyHash_int h
    · exact wpAny_pyHash_str h
  eqBool := fun hu hv h => by
    rcases keyIs_shape hu with ⟨i, t, rfl, rfl⟩ | ⟨x, t, rfl, rfl⟩
    · rcases keyIs_shape hv with ⟨j, u, rfl, rfl⟩ | ⟨y, u, rfl, rfl⟩
      · rw [key_ll] at h; exact wpAny_eqBool_int h
      · rw [key_lr] at h; exact SeqAt.EqAt.int_str i t y u _ _ _ _ h
    · rcases keyIs_shape hv with ⟨j, u, rfl, rfl⟩ | ⟨y, u, rfl, rfl⟩
      · rw [key_rl] at h; exact SeqAt.EqAt.str_int x t j u _ _ _ _ h
      · rw [key_rr] at h; exact wpAny_eqBool_str h
  «strs» := fun k x t v h => by
    rcases keyIs_shape h with ⟨i, u, rfl, e⟩ | ⟨y, u, rfl, e⟩
    · exact nomatch e
    · injection e with e1 _
      subst e1
      cases v <;> rfl

theorem mixKind_int (prog : Program) (w : World) (i : Int) (t : Tok) : (mixKind prog w).is (.inl i) (.int i t) = true := keyIs_int i t
theorem mixKind_str (prog : Program) (w : World) (x : Str) (t : Tok) : (mixKind prog w).is (.inr x) (.str x t) = true := keyIs_str x t
end L2

namespace L2
open PySem PySem.Spec PyProof.Rows

/-- a value, without the heap -/
inductive V where
  | non | bl (b : Bool) | int (i : Int) | str (x : Str) | byt (b : Array UInt8) | flt (b : UInt64) | ref (a : Addr) | ty (n : String)
  deriving DecidableEq

def RelV : V → Value → Prop
  | .non, u => u = Value.none
  | .bl b, u => u = Value.bool b
  | .int i, u => ∃ t, u = Value.int i t
  | .str x, u => ∃ t, u = Value.str x t
  | .byt b, u => ∃ t, u = Value.bytes b t
  | .flt b, u => ∃ t, u = Value.float b t
  | .ref a, u => u = Value.ref a
  | .ty n, u => u = Value.type n

abbrev Vals : List V → List Value → Prop := Paired RelV
theorem Vals.length {xs : List V} {us : List Value} (r : Vals xs us) : xs.length = us.length := Paired.length r
theorem Vals.get : ∀ {xs : List V} {us : List Value} {i : Nat} {x : V}, Vals xs us → xs[i]? = some x → ∃ u, us[i]? = some u ∧ RelV x u
  | _, _, _, _, .nil, e => by simp at e
  | _, _, 0, _, .cons r _, e => by simp at e; subst e; exact ⟨_, rfl, r⟩
  | _, _, i + 1, x, .cons _ t, e => by
    obtain ⟨u, h1, h2⟩ := Vals.get (i := i) (x := x) t (by simpa using e)
    exact ⟨u, by simpa using h1, h2⟩
theorem Vals.set {x : V} {u : Value} (r : RelV x u) : ∀ {xs : List V} {us : List Value} (i : Nat), Vals xs us → Vals (xs.set i x) (us.set i u)
  | _, _, _, .nil => .nil
  | _, _, 0, .cons _ t => .cons r t
  | _, _, i + 1, .cons q t => .cons q (Vals.set r i t)
theorem Vals.append : ∀ {xs ys : List V} {us ws : List Value}, Vals xs us → Vals ys ws → Vals (xs ++ ys) (us ++ ws)
  | _, _, _, _, .nil, s => s
  | _, _, _, _, .cons r t, s => .cons r (Vals.append t s)
theorem Vals.take : ∀ {xs : List V} {us : List Value} (n : Nat), Vals xs us → Vals (xs.take n) (us.take n)
  | _, _, 0, _ => .nil
  | _, _, _ + 1, .nil => .nil
  | _, _, n + 1, .cons r t => .cons r (Vals.take n t)
theorem Vals.drop : ∀ {xs : List V} {us : List Value} (n : Nat), Vals xs us → Vals (xs.drop n) (us.drop n)
  | _, _, 0, r => r
  | _, _, _ + 1, .nil => .nil
  | _, _, n + 1, .cons _ t => Vals.drop n t

def RelO : Option V → Option Value → Prop
  | some v, some u => RelV v u
  | none, none => True
  | _, _ => False
def KV {κ : Type} : List (κ × V) → List (κ × Value) → Prop := Paired fun (p : κ × V) (q : κ × Value) => p.1 = q.1 ∧ RelV p.2 q.2

/-- a key of a dict (00_mix): an int or a text -/
def kV : Key → V
  | .inl i => .int i
  | .inr x => .str x

/-- what stands at a tracked address -/
inductive HO where
  /-- a list -/
  | lst (xs : List V)
  /-- a tuple (never changes) -/
  | tup (xs : List V)
  /-- a dict whose keys are ints and texts; one whose keys are tuples of ints and texts (the empty one is both) -/
  | dK (kvs : List (Key × V)) | dT (kvs : List (List Key × V))
  /-- a set of ints: its members, its size -/
  | set (S : Int → Bool) (n : Nat)
  /-- an instance of the class at C, its dict at dx, its attributes -/
  | ins (C dx : Addr) (fs : List (Str × V))
  /-- the dict of the instance at x -/
  | own (x : Addr)
  /-- the dict of an exception -/
  | xd (fs : List (Str × V))
  /-- a bound method, f of x -/
  | met (f x : Addr)
  /-- a range object lo, lo + 1, .. below hi -/
  | rng (lo hi : Int)
  /-- a thing that is known to the object (the script; a dict while a loop walks it): read, never written while it is so -/
  | frz (o : Obj) (u : HO)
  /-- a code object's table -/
  | tbl (ps : Array Value)
  /-- any other thing, by what is true of its one object (a def of one's own: SetO a S n := HO.ext fun h => ..) -/
  | ext (φ : Heap → Prop)

abbrev Hp := Addr → Option HO
def upd (H : Hp) (a : Addr) (o : HO) : Hp := fun b => if b = a then some o else H b
theorem upd_same {H : Hp} {a : Addr} {o : HO} : upd H a o a = some o := by unfold upd; rw [if_pos rfl]
theorem upd_ne {H : Hp} {a b : Addr} {o : HO} (h : b ≠ a) : upd H a o b = H b := by unfold upd; rw [if_neg h]
/-- two objects of different content stand apart -/
theorem ne_of {H : Hp} {a b : Addr} {o u : HO} (h : H a = some o) (h' : H b = some u) (d : o ≠ u) : a ≠ b := by
  intro e; subst e; rw [h] at h'; exact d (Option.some.inj h')
theorem ne_of_none {H : Hp} {a b : Addr} {o : HO} (h : H a = some o) (h' : H b = none) : a ≠ b := by
  intro e; subst e; rw [h] at h'; cases h'

section
variable (P : Program) (w : World)
def ObjOk (H : Hp) (h : Heap) (a : Addr) : HO → Prop
  | .lst xs => xs.length ≤ sizeLine ∧ ∃ (its : List Value) (n : Nat), Vals xs its ∧ h.get? a = some { cls := .type "list", data := .seq its.toArray n }
  | .tup xs => xs.length ≤ sizeLine ∧ ∃ its : List Value, Vals xs its ∧ IsTup h a its.toArray
  | .dK kvs => kvs.length ≤ sizeLine ∧ (a == sysModules) = false ∧ ∃ vs, KV kvs vs ∧ h.DictOf (mixKind P w) a vs
  | .dT kvs => kvs.length ≤ sizeLine ∧ (a == sysModules) = false ∧ ∃ xs : List (List Key × Addr × Value),
      Paired (fun (p : List Key × V) (q : List Key × Addr × Value) => p.1 = q.1 ∧ H q.2.1 = some (.tup (p.1.map kV)) ∧ RelV p.2 q.2.2) kvs xs ∧
      ∃ o es ep, h.get? a = some o ∧ o.ExactDict ∧ o.data = .dict es ep ∧ es.toList = xs.map (entryOfKey (tupleKind (mixKind P w))) ∧ (xs.map (·.1)).Nodup
  | .set S n => h.SetOf (intKind P w) a S n
  | .ins C dx fs => H dx = some (.own a) ∧ fs.length ≤ 1000 ∧ dx ≠ a ∧ h.get? a = some (PySem.W.instObj C dx) ∧
      ∃ mA, h.Ns1 dx mA ∧ (∀ f, RelO (fs.lookup f) (mA f)) ∧ PySem.Within mA (fs.map (·.1))
  | .own _ => ∃ o, h.get? a = some o
  | .xd fs => ∃ mA, h.Ns1 a mA ∧ ∀ f, RelO (fs.lookup f) (mA f)
  | .rng lo hi => ∃ t u v, h.get? a = some { cls := .type "range", data := .fields #[.int lo t, .int hi u, .int 1 v] }
  | .frz o u => h.get? a = some o ∧ ObjOk H h a u
  | .tbl ps => h.get? a = some { cls := .none, data := .fields ps }
  | .met f x => h.get? a = some (PySem.W.methodObj (.ref f) (.ref x))
  | .ext φ => φ h ∧ (∃ o, h.get? a = some o) ∧ ∀ h1 h2 : Heap, φ h1 → (∀ o, h1.get? a = some o → h2.get? a = some o) → φ h2
/-- the abstract heap is held -/
def HOk (H : Hp) (h : Heap) : Prop := ∀ a o, H a = some o → ObjOk P w H h a o
end

section
variable {P : Program} {w : World} {H H' : Hp} {h h' : Heap} {a : Addr} {o : HO}
theorem ObjOk.lt (x : ObjOk P w H h a o) : a < h.objs.size := by
  cases o with
  | lst xs => obtain ⟨_, _, _, _, e⟩ := x; exact Heap.lt_size e
  | tup xs => obtain ⟨_, _, _, p⟩ := x; exact p.lt
  | dK kvs => obtain ⟨_, _, _, _, o, _, _, e, _⟩ := x; exact Heap.lt_size e
  | dT kvs => obtain ⟨_, _, _, _, o, _, _, e, _⟩ := x; exact Heap.lt_size e
  | set S n => obtain ⟨o, _, _, _, e, _⟩ := x; exact Heap.lt_size e
  | ins C dx fs => obtain ⟨_, _, _, e, _⟩ := x; exact Heap.lt_size e
  | own y => obtain ⟨_, e⟩ := x; exact Heap.lt_size e
  | xd fs => obtain ⟨_, ⟨_, _, _, e, _⟩, _⟩ := x; exact Heap.lt_size e
  | rng lo hi => obtain ⟨_, _, _, e⟩ := x; exact Heap.lt_size e
  | frz ob u => obtain ⟨e, _⟩ := x; exact Heap.lt_size e
  | tbl ps => exact Heap.lt_size (show h.get? a = some _ from x)
  | met f y => exact Heap.lt_size (show h.get? a = some _ from x)
  | ext φ => obtain ⟨_, ⟨_, e⟩, _⟩ := x; exact Heap.lt_size e
theorem Paired.mapP {α β : Type} {F G : α → β → Prop} : ∀ {l₁ : List α} {l₂ : List β}, Paired F l₁ l₂ → (∀ a b, F a b → G a b) → Paired G l₁ l₂
  | _, _, .nil, _ => .nil
  | _, _, .cons r t, f => .cons (f _ _ r) (Paired.mapP t f)
/-- what an object's description leans on: its own object, its own dict, the tuples -/
theorem ObjOk.stay (x : ObjOk P w H h a o) (k : ∀ b u, (b = a ∨ H b = some (.own a)) → h.get? b = some u → h'.get? b = some u)
    (ho : ∀ b, H b = some (.own a) → H' b = some (.own a)) (ht : ∀ b xs, H b = some (.tup xs) → H' b = some (.tup xs)) : ObjOk P w H' h' a o := by
  induction o with
  | lst xs => obtain ⟨z, its, n, r, e⟩ := x; exact ⟨z, its, n, r, k _ _ (.inl rfl) e⟩
  | tup xs => obtain ⟨z, its, r, ob, e, c⟩ := x; exact ⟨z, its, r, ob, k _ _ (.inl rfl) e, c⟩
  | dK kvs => obtain ⟨z, y, vs, r, ob, es, ep, e, c⟩ := x; exact ⟨z, y, vs, r, ob, es, ep, k _ _ (.inl rfl) e, c⟩
  | dT kvs =>
    obtain ⟨z, y, xs, r, ob, es, ep, e, c⟩ := x
    exact ⟨z, y, xs, Paired.mapP r fun p q z => ⟨z.1, ht _ _ z.2.1, z.2.2⟩, ob, es, ep, k _ _ (.inl rfl) e, c⟩
  | set S n => obtain ⟨ob, es, ep, t, e, c⟩ := x; exact ⟨ob, es, ep, t, k _ _ (.inl rfl) e, c⟩
  | ins C dx fs =>
    obtain ⟨d, z, ne, e, mA, ⟨od, es, ep, e2, c⟩, r⟩ := x
    exact ⟨ho _ d, z, ne, k _ _ (.inl rfl) e, mA, ⟨od, es, ep, k _ _ (.inr d) e2, c⟩, r⟩
  | own y => obtain ⟨ob, e⟩ := x; exact ⟨ob, k _ _ (.inl rfl) e⟩
  | xd fs => obtain ⟨mA, ⟨od, es, ep, e, c⟩, r⟩ := x; exact ⟨mA, ⟨od, es, ep, k _ _ (.inl rfl) e, c⟩, r⟩
  | rng lo hi => obtain ⟨t, u, v, e⟩ := x; exact ⟨t, u, v, k _ _ (.inl rfl) e⟩
  | frz ob u ih => obtain ⟨e, q⟩ := x; exact ⟨k _ _ (.inl rfl) e, ih q⟩
  | tbl ps =>
    have e : h.get? a = some { cls := .none, data := .fields ps } := x
    show h'.get? a = some { cls := .none, data := .fields ps }
    exact k a _ (.inl rfl) e
  | met f y =>
    have e : h.get? a = some (PySem.W.methodObj (.ref f) (.ref y)) := x
    show h'.get? a = some (PySem.W.methodObj (.ref f) (.ref y))
    exact k a _ (.inl rfl) e
  | ext φ => obtain ⟨p, ⟨o, e⟩, st⟩ := x; exact ⟨st _ _ p fun o q => k _ _ (.inl rfl) q, ⟨o, k _ _ (.inl rfl) e⟩, st⟩
theorem HOk.lt (x : HOk P w H h) (e : H a = some o) : a < h.objs.size := (x a o e).lt
theorem HOk.fresh (x : HOk P w H h) (e : h.objs.size ≤ a) : H a = none := by
  cases q : H a with
  | none => rfl
  | some u => exact absurd (Nat.lt_of_lt_of_le (x.lt q) e) (Nat.lt_irrefl _)
/-- every object of the heap is kept -/
theorem HOk.kept (x : HOk P w H h) (k : ∀ b u, h.get? b = some u → h'.get? b = some u) : HOk P w H h' := fun a o e =>
  (x a o e).stay (fun b u _ q => k b u q) (fun _ q => q) fun _ _ q => q
/-- a new object is laid and tracked -/
theorem HOk.laid (x : HOk P w H h) (k : ∀ b u, h.get? b = some u → h'.get? b = some u) (hp : h.objs.size ≤ a) (new : ObjOk P w (upd H a o) h' a o) : HOk P w (upd H a o) h' := fun b u e => by
  have hn := x.fresh hp
  by_cases hb : b = a
  · subst hb; rw [upd_same] at e; cases e; exact new
  · rw [upd_ne hb] at e
    exact (x b u e).stay (fun c v _ q => k c v q) (fun c q => by rw [upd_ne (ne_of_none q hn)]; exact q) fun c xs q => by rw [upd_ne (ne_of_none q hn)]; exact q
end

/-- what may be read as u: it is u, or a known u -/
def Rd (H : Hp) (a : Addr) (u : HO) : Prop := H a = some u ∨ ∃ o, H a = some (.frz o u)
theorem Rd.ok {P : Program} {w : World} {H : Hp} {h : Heap} {a : Addr} {u : HO} (r : Rd H a u) (x : HOk P w H h) : ObjOk P w H h a u := by
  rcases r with r | ⟨o, r⟩
  · exact x a u r
  · obtain ⟨_, q⟩ := x a _ r
    exact q
/-- what may be written -/
def Mut : Option HO → Prop
  | some (.lst _) => True
  | some (.dK _) => True
  | some (.dT _) => True
  | some (.set _ _) => True
  | some (.ins _ _ _) => True
  | some (.ext _) => True
  | _ => False
section
variable {P : Program} {w : World} {H : Hp} {h h' : Heap} {x e : Addr} {o' : HO}
/-- the object at e is changed: x itself, or the dict of the instance x -/
theorem HOk.write (ok : HOk P w H h) (mu : Mut (H x)) (he : e = x ∨ H e = some (.own x)) (k : ∀ b u, b ≠ e → h.get? b = some u → h'.get? b = some u) (heo : ∃ u, h'.get? e = some u)
    (new : ObjOk P w (upd H x o') h' x o') : HOk P w (upd H x o') h' := fun b u q => by
  have nown : ∀ c y, H c = some (.own y) → c ≠ x := fun c y r z => by subst z; rw [r] at mu; exact mu
  have ntup : ∀ c xs, H c = some (.tup xs) → c ≠ x := fun c xs r z => by subst z; rw [r] at mu; exact mu
  by_cases hb : b = x
  · subst hb; rw [upd_same] at q; cases q; exact new
  · rw [upd_ne hb] at q
    by_cases hbe : b = e
    · have q' : H b = some (.own x) := by
        rcases he with z | z
        · exact absurd (hbe.trans z) hb
        · rw [hbe]; exact z
      rw [q] at q'; cases q'
      obtain ⟨v, hv⟩ := heo
      exact ⟨v, by rw [hbe]; exact hv⟩
    · refine (ok b u q).stay (fun c v hc r => k c v ?_ r) (fun c r => by rw [upd_ne (nown c b r)]; exact r) fun c xs r => by rw [upd_ne (ntup c xs r)]; exact r
      rcases hc with rfl | hc
      · exact hbe
      · rintro rfl
        rcases he with z | z
        · exact nown c b hc z
        · rw [hc] at z; cases z; exact hb rfl
end

/-! ### kept unless tracked; of the frames at fs (the callers') the slots may change (an exception that passes writes there); of the records at ex (iterators) nothing is said -/
structure Un (fs ex : List Addr) (H H' : Hp) (h h' : Heap) : Prop where
  keep : ∀ b o, h.get? b = some o → H b = none → b ∉ fs → b ∉ ex → h'.get? b = some o
  slot : ∀ b o, h.get? b = some o → H b = none → b ∈ fs → b ∉ ex → ∃ sl, h'.get? b = some { o with slots := sl }
  free : ∀ b o, h.get? b = some o → H b = none → b ∉ ex → H' b = none
  there : ∀ b o, h.get? b = some o → b ∉ ex → ∃ o', h'.get? b = some o'
  tups : ∀ b xs, H b = some (.tup xs) → H' b = some (.tup xs)
  frzs : ∀ b o u, H b = some (.frz o u) → H' b = some (.frz o u)
  tbls : ∀ b ps, H b = some (.tbl ps) → ∃ more, H' b = some (.tbl (ps ++ more))
section
variable {fs fs' ex ex' : List Addr} {H H1 H2 : Hp} {h h1 h2 h' : Heap} {a x e : Addr} {o : HO}
theorem Un.any (u : Un fs ex H H1 h h1) {b : Addr} {ob : Obj} (q : h.get? b = some ob) (n : H b = none) (hx : b ∉ ex) : ∃ sl, h1.get? b = some { ob with slots := sl } := by
  by_cases hb : b ∈ fs
  · exact u.slot b ob q n hb hx
  · exact ⟨ob.slots, u.keep b ob q n hb hx⟩
theorem Un.kept (k : ∀ b u, h.get? b = some u → h'.get? b = some u) : Un fs ex H H h h' :=
  ⟨fun b ob q _ _ _ => k b ob q, fun b ob q _ _ _ => ⟨ob.slots, k b ob q⟩, fun _ _ _ n _ => n, fun b ob q _ => ⟨ob, k b ob q⟩, fun _ _ q => q, fun _ _ _ q => q, fun _ ps q => ⟨#[], by rw [q]; simp⟩⟩
theorem Un.refl : Un fs ex H H h h := Un.kept fun _ _ q => q
theorem Un.laid (k : ∀ b u, h.get? b = some u → h'.get? b = some u) (hp : h.objs.size ≤ a) (hn : H a = none) : Un fs ex H (upd H a o) h h' where
  keep := fun b u q _ _ _ => k b u q
  slot := fun b u q _ _ _ => ⟨u.slots, k b u q⟩
  free := fun b u q n _ => by rw [upd_ne (Nat.ne_of_lt (Nat.lt_of_lt_of_le (Heap.lt_size q) hp))]; exact n
  there := fun b u q _ => ⟨u, k b u q⟩
  tups := fun b xs q => by rw [upd_ne (ne_of_none q hn)]; exact q
  frzs := fun b u xs q => by rw [upd_ne (ne_of_none q hn)]; exact q
  tbls := fun b ps q => ⟨#[], by rw [upd_ne (ne_of_none q hn), q]; simp⟩
theorem Un.write (mu : Mut (H x)) (he : e = x ∨ H e = some (.own x)) (k : ∀ b u, b ≠ e → h.get? b = some u → h'.get? b = some u) (heo : ∃ u, h'.get? e = some u) : Un fs ex H (upd H x o) h h' := by
  have hx : ∀ b, H b = none → b ≠ x := fun b n z => by subst z; rw [n] at mu; exact mu
  have hb : ∀ b, H b = none → b ≠ e := fun b n z => by
    subst z
    rcases he with r | r
    · exact hx b n r
    · rw [n] at r; cases r
  have hm : ∀ b u, H b = some u → ¬ Mut (some u) → b ≠ x := fun b u q nm z => by subst z; rw [q] at mu; exact nm mu
  refine ⟨fun b u q n _ _ => k b u (hb b n) q, fun b u q n _ _ => ⟨u.slots, k b u (hb b n) q⟩, fun b u q n _ => by rw [upd_ne (hx b n)]; exact n, fun b u q _ => ?_,
    fun b xs q => by rw [upd_ne (hm b _ q fun z => z)]; exact q, fun b u xs q => by rw [upd_ne (hm b _ q fun z => z)]; exact q, fun b ps q => ⟨#[], by rw [upd_ne (hm b _ q fun z => z), q]; simp⟩⟩
  by_cases hbe : b = e
  · subst hbe; exact heo
  · exact ⟨u, k b u hbe q⟩
end

/-! ### the heap without what is tracked -/
def trk (h : Heap) (H : Hp) : List Addr := (List.range h.objs.size).filter fun a => (H a).isSome
def hidT (h : Heap) (H : Hp) : Heap := PySem.W.hideAll h (trk h H)
theorem hidT_size (h : Heap) (H : Hp) : (hidT h H).objs.size = h.objs.size := PySem.W.hideAll_size _ _
theorem hidT_get {h : Heap} {H : Hp} {b : Addr} {o : Obj} (e : h.get? b = some o) (n : H b = none) : (hidT h H).get? b = some o :=
  PySem.W.hideAll_get _ e fun hm => by
    have q : (H b).isSome = true := (List.mem_filter.mp hm).2
    rw [n] at q; simp at q
theorem of_hidT {h : Heap} {H : Hp} {b : Addr} {o : Obj} (e : (hidT h H).get? b = some o) : h.get? b = some o ∧ H b = none := by
  have e' : h.get? b = some o := PySem.W.of_hideAll (trk h H) e
  refine ⟨e', ?_⟩
  cases q : H b with
  | none => rfl
  | some x =>
    have hm : b ∈ trk h H := List.mem_filter.mpr ⟨List.mem_range.mpr (Heap.lt_size e'), by simp [q]⟩
    have z : (hidT h H).get? b = none := PySem.W.hideAll_none (trk h H) hm
    rw [z] at e; cases e

/-! ### OpenK's ledger, filled with every new object but one -/
end L2

namespace L2
open PySem PySem.Spec PyProof.Rows

/-- the module's facts, over the base: the heap at the law's entry without what is tracked there -/
structure Mod (K : PySem.W.Frag) (mg : Str → Option Value) (base : Heap) : Prop where
  kin : K.In base
  glob : base.Ns mainGlobals mg
  blt : ∃ mb, base.Ns builtinsNs mb ∧ ∀ x : Str, x ≠ "__name__" → mb x = bootBuiltins x
  nolimit : base.NoLimit

/-- the context: a def's body (or a comprehension's block) running. base: fixed through the whole law; s₀, H₀: the entry; outer: the frames whose slots others may change (a def's callers); stack: all frames that run;
   ex: iterators that were made ahead of the entry and are walked here (a comprehension's); fn: the names whose cells were made at the entry (a def: all; a comprehension's block: its own); calm: not within an except suite; pn: pins that every state bears; xe: what is wanted of an exception that leaves the code -/
structure Cx where
  prog : Program
  w : World
  K : PySem.W.Frag
  mg : Str → Option Value
  base : Heap
  A : Around
  N : List Str
  s_0 : Shared
  H_0 : Hp
  env : Env
  outer : List Env
  stack : List Env
  ex : List Addr
  fn : Str → Bool
  calm : Bool
  pn : List (Addr × Obj)
  xe : Value → Shared → Prop
/-- the callers' frames -/
def frs (l : List Env) : List Addr := l.filterMap (·.frame)
abbrev Cx.fs (X : Cx) : List Addr := frs X.outer

def Vis (sc : Scope) (x : Str) : Prop := sc.names.lookup x = some .local ∨ sc.names.lookup x = some .cell ∨ sc.names.lookup x = some .free
def Loc (sc : Scope) (x : Str) : Prop := sc.names.lookup x = some .local ∨ sc.names.lookup x = some .cell
def Look (env : Env) (h : Heap) (m : Str → Option Value) (x : Str) (u : Value) : Prop :=
  (env.kindOf x = some .local ∧ m x = some u) ∨ ((env.kindOf x = some .cell ∨ env.kindOf x = some .free) ∧ ∃ c, env.cells.lookup x = some c ∧ h.IsCell c (some u))

structure Cx.Ok (X : Cx) : Prop where
  mod : Mod X.K X.mg X.base
  kind : X.env.scope.kind = .function
  glob : X.env.globals = mainGlobals
  blt : X.env.builtins = builtinsNs
  above : X.s_0.heap.objs.size ≤ X.env.locals
  inj : ∀ x y c, X.env.cells.lookup x = some c → X.env.cells.lookup y = some c → x = y
  has : ∀ x, (X.env.kindOf x = some .cell ∨ X.env.kindOf x = some .free) → ∃ c, X.env.cells.lookup x = some c
  cab : ∀ x c, X.fn x = true → X.env.cells.lookup x = some c → X.s_0.heap.objs.size ≤ c
  hd : X.calm = true → X.A.handled = none
  frames : X.A.frames = some X.stack
  stk : X.stack = X.outer ∨ (X.stack = X.env :: X.outer ∧ X.env.frame = some X.env.locals)
  exf : ∀ b ∈ X.ex, b ≠ X.env.locals ∧ ∀ x c, X.env.cells.lookup x = some c → c ≠ b
  bs : ∀ b o, X.base.get? b = some o → X.s_0.heap.get? b = some o ∧ X.H_0 b = none
  bsz : X.base.objs.size ≤ X.s_0.heap.objs.size
  noex : ∀ b o, X.base.get? b = some o → b ∉ X.ex
  exfs : ∀ b ∈ X.ex, b ∉ X.fs
  funs : X.s_0.heap.FunFrames X.base X.outer
  frf : ∀ b ∈ X.fs, X.H_0 b = none

structure Inv (X : Cx) (pins : List (Addr × Obj)) (σ : List (Option V)) (H : Hp) (s : Shared) : Prop where
  ok : X.Ok
  os : s.os = X.s_0.os
  bare : AllBare s.gens
  base : Un X.fs X.ex X.H_0 H X.s_0.heap s.heap
  loc : ∃ m, s.heap.Ns X.env.locals m ∧ ∀ (i : Nat) (x : Str) (v : V), X.N[i]? = some x → σ[i]? = some (some v) → Vis X.env.scope x → ∃ u, RelV v u ∧ Look X.env s.heap m x u
  cell : ∀ x c, X.env.cells.lookup x = some c → ∃ v, s.heap.IsCell c v
  free : H X.env.locals = none
  freeC : ∀ x c, X.env.cells.lookup x = some c → H c = none
  pin : ∀ p ∈ X.pn ++ pins, s.heap.get? p.1 = some p.2 ∧ H p.1 = none ∧ p.1 ≠ X.env.locals ∧ p.1 ∉ X.fs ∧ ∀ v, p.2.data ≠ .cell v
  hok : HOk X.prog X.w H s.heap
  len : σ.length = X.N.length

section
variable {X : Cx} {pins : List (Addr × Obj)} {σ : List (Option V)} {H H' : Hp} {s : Shared} {h' : Heap}

theorem Cx.Ok.nofr (ok : X.Ok) {b : Addr} {o : Obj} (e : X.base.get? b = some o) : b ∉ X.fs := fun hb => by
  have := (ok.funs.mem hb).1
  rw [e] at this; cases this
theorem Inv.bs (I : Inv X pins σ H s) : ∀ b o, X.base.get? b = some o → s.heap.get? b = some o ∧ H b = none := fun b o e =>
  ⟨I.base.keep b o (I.ok.bs b o e).1 (I.ok.bs b o e).2 (I.ok.nofr e) (I.ok.noex b o e), I.base.free b o (I.ok.bs b o e).1 (I.ok.bs b o e).2 (I.ok.noex b o e)⟩
theorem Inv.bk (I : Inv X pins σ H s) : ∀ b o, X.base.get? b = some o → s.heap.get? b = some o := fun b o e => (I.bs b o e).1
theorem Inv.mod (I : Inv X pins σ H s) : Mod X.K X.mg X.base := I.ok.mod
theorem Inv.kIn (I : Inv X pins σ H s) : X.K.In s.heap := I.ok.mod.kin.keeps I.bk
theorem Inv.lt (I : Inv X pins σ H s) : X.env.locals < s.heap.objs.size := let ⟨_, hn, _⟩ := I.loc; hn.lt
theorem Inv.sz (I : Inv X pins σ H s) : X.s_0.heap.objs.size ≤ s.heap.objs.size := Nat.le_trans I.ok.above (Nat.le_of_lt I.lt)
theorem Inv.nofs (I : Inv X pins σ H s) {a : Addr} (h : s.heap.objs.size ≤ a) : a ∉ X.fs := fun hb => by
  obtain ⟨_, o, ho, _⟩ := I.ok.funs.mem hb
  exact absurd (Nat.lt_of_lt_of_le (Heap.lt_size ho) (Nat.le_trans I.sz h)) (Nat.lt_irrefl _)
theorem Inv.cne (I : Inv X pins σ H s) : ∀ x c, X.env.cells.lookup x = some c → c ≠ X.env.locals := fun x c e z => by
  obtain ⟨v, o, ho, hd⟩ := I.cell x c e
  obtain ⟨m, ⟨o', es, ep, ho', hd', _⟩, _⟩ := I.loc
  rw [z, ho'] at ho; cases ho; rw [hd'] at hd; cases hd
theorem Inv.funs (I : Inv X pins σ H s) : s.heap.FunFrames X.base X.outer := by
  have all : ∀ (l : List Env), (∀ b ∈ frs l, b ∈ X.fs) → X.s_0.heap.FunFrames X.base l → s.heap.FunFrames X.base l := by
    intro l
    induction l with
    | nil => intro _ _; trivial
    | cons env r ih =>
      intro hs hl
      obtain ⟨hk, ⟨L, o, hf, hn, ho, hd⟩, hr⟩ := hl
      have hL : L ∈ X.fs := hs L (by unfold frs; rw [List.filterMap_cons, hf]; exact List.mem_cons_self)
      obtain ⟨sl, e⟩ := I.base.slot L o ho (I.ok.frf L hL) hL fun z => I.ok.exfs L z hL
      exact ⟨hk, ⟨L, _, hf, hn, e, hd⟩, ih (fun b hb => hs b (by unfold frs; rw [List.filterMap_cons, hf]; exact List.mem_cons_of_mem _ hb)) hr⟩
  exact all X.outer (fun _ hb => hb) I.ok.funs

/-- the frames that run, for a call -/
theorem Inv.stack (I : Inv X pins σ H s) : s.heap.FunFrames X.base X.stack := by
  rcases I.ok.stk with e | ⟨e, hf⟩
  · rw [e]; exact I.funs
  · rw [e]
    obtain ⟨m, hn, _⟩ := I.loc
    refine .cons (by rw [I.ok.kind]; decide) hf hn ?_ I.funs
    exact Heap.get?_none_of_le (Nat.le_trans I.ok.bsz I.ok.above)
theorem Inv.stkSub (I : Inv X pins σ H s) : ∀ b ∈ frs X.stack, b ∈ X.env.locals :: X.fs := fun b hb => by
  rcases I.ok.stk with e | ⟨e, hf⟩
  · rw [e] at hb; exact List.mem_cons_of_mem _ hb
  · rw [e] at hb
    unfold frs at hb
    rw [List.filterMap_cons, hf] at hb
    exact hb
theorem Inv.stkFree (I : Inv X pins σ H s) : ∀ b ∈ frs X.stack, H b = none := fun b hb => by
  rcases List.mem_cons.mp (I.stkSub b hb) with e | hb
  · rw [e]; exact I.free
  · obtain ⟨_, o, ho, _⟩ := I.ok.funs.mem hb
    exact I.base.free b o ho (I.ok.frf b hb) fun z => I.ok.exfs b z hb

/-- THE STEP: the untracked objects but the frame and the records at ch are kept (the callers' frames up to slots), the frame's map is kept, the new abstract heap is held -/
theorem Inv.step {g' : Array GenState} {t' : Nat} {d' : Drawn} {ch : List Addr} (I : Inv X pins σ H s)
    (hch : ∀ b ∈ ch, (b ∈ X.ex ∨ X.s_0.heap.objs.size ≤ b) ∧ b ≠ X.env.locals ∧ (∀ x c, X.env.cells.lookup x = some c → c ≠ b) ∧ ∀ p ∈ X.pn ++ pins, p.1 ≠ b)
    (keep : ∀ b o, b ≠ X.env.locals → b ∉ X.fs → b ∉ ch → s.heap.get? b = some o → H b = none → h'.get? b = some o)
    (slot : ∀ b o, b ≠ X.env.locals → b ∈ X.fs → b ∉ ch → s.heap.get? b = some o → H b = none → ∃ sl, h'.get? b = some { o with slots := sl }) (free : ∀ b o, b ∉ ch → s.heap.get? b = some o → H b = none → H' b = none)
    (there : ∀ b o, b ∉ ch → s.heap.get? b = some o → ∃ o', h'.get? b = some o')
    (tups : ∀ b xs, H b = some (.tup xs) → H' b = some (.tup xs)) (frzs : ∀ b o u, H b = some (.frz o u) → H' b = some (.frz o u)) (tbls : ∀ b ps, H b = some (.tbl ps) → ∃ more, H' b = some (.tbl (ps ++ more)))
    (ns : ∀ m, s.heap.Ns X.env.locals m → h'.Ns X.env.locals m) (hok : HOk X.prog X.w H' h') (hg : AllBare g') :
    Inv X pins σ H' { s with heap := h', gens := g', drawn := d', toks := t' } := by
  have neL : ∀ b o, X.s_0.heap.get? b = some o → b ≠ X.env.locals := fun b o e => Nat.ne_of_lt (Nat.lt_of_lt_of_le (Heap.lt_size e) I.ok.above)
  have neC : ∀ b o, X.s_0.heap.get? b = some o → b ∉ X.ex → b ∉ ch := fun b o e hx hb => by
    rcases (hch b hb).1 with z | z
    · exact hx z
    · exact absurd (Nat.lt_of_lt_of_le (Heap.lt_size e) z) (Nat.lt_irrefl _)
  have cellK : ∀ x c, X.env.cells.lookup x = some c → ∀ v, s.heap.IsCell c v → h'.IsCell c v := fun x c e v ⟨o, ho, hd⟩ => by
    have nch : c ∉ ch := fun z => (hch c z).2.2.1 x c e rfl
    by_cases hc : c ∈ X.fs
    · obtain ⟨sl, q⟩ := slot c o (I.cne x c e) hc nch ho (I.freeC x c e)
      exact ⟨_, q, hd⟩
    · exact ⟨o, keep c o (I.cne x c e) hc nch ho (I.freeC x c e), hd⟩
  refine ⟨I.ok, I.os, hg, ⟨fun b o e n hb hx => ?_, fun b o e n hb hx => ?_, fun b o e n hx => ?_, fun b o e hx => ?_, fun b xs e => tups b xs (I.base.tups b xs e), fun b o xs e => frzs b o xs (I.base.frzs b o xs e), fun b ps e => ?_⟩, ?_, fun x c e => ?_, ?_, fun x c e => ?_, fun p hp => ?_, hok, I.len⟩
  · exact keep b o (neL b o e) hb (neC b o e hx) (I.base.keep b o e n hb hx) (I.base.free b o e n hx)
  · obtain ⟨sl, e1⟩ := I.base.slot b o e n hb hx
    obtain ⟨sl', e2⟩ := slot b _ (neL b o e) hb (neC b o e hx) e1 (I.base.free b o e n hx)
    exact ⟨sl', e2⟩
  · obtain ⟨o', e1⟩ := I.base.there b o e hx
    exact free b o' (neC b o e hx) e1 (I.base.free b o e n hx)
  · obtain ⟨o', e1⟩ := I.base.there b o e hx
    exact there b o' (neC b o e hx) e1
  · obtain ⟨m1, e1⟩ := I.base.tbls b ps e
    obtain ⟨m2, e2⟩ := tbls b _ e1
    exact ⟨m1 ++ m2, by rw [e2, Array.append_assoc]⟩
  · obtain ⟨m, hn, hl⟩ := I.loc
    refine ⟨m, ns m hn, fun i x v e1 e2 e3 => ?_⟩
    obtain ⟨u, r, l⟩ := hl i x v e1 e2 e3
    refine ⟨u, r, ?_⟩
    rcases l with l | ⟨k, c, e, z⟩
    · exact .inl l
    · exact .inr ⟨k, c, e, cellK x c e _ z⟩
  · obtain ⟨v, z⟩ := I.cell x c e
    exact ⟨v, cellK x c e v z⟩
  · obtain ⟨m, ⟨o, _, _, ho, _⟩, _⟩ := I.loc
    exact free _ o (fun z => (hch _ z).2.1 rfl) ho I.free
  · obtain ⟨v, o, ho, hd⟩ := I.cell x c e
    exact free c o (fun z => (hch c z).2.2.1 x c e rfl) ho (I.freeC x c e)
  · obtain ⟨e, n, ne, nf, d⟩ := I.pin p hp
    have nch : p.1 ∉ ch := fun z => (hch p.1 z).2.2.2 p hp rfl
    exact ⟨keep p.1 p.2 ne nf nch e n, free p.1 p.2 nch e n, ne, nf, d⟩
/-- .. where the frame's own object is kept too -/
theorem Inv.un {t' : Nat} (I : Inv X pins σ H s) (u : Un X.fs [] H H' s.heap h') (hok : HOk X.prog X.w H' h') : Inv X pins σ H' { s with heap := h', toks := t' } := by
  obtain ⟨m, ⟨o, es, ep, ho, r⟩, _⟩ := id I.loc
  obtain ⟨sl, hL⟩ := u.any ho I.free (by simp)
  exact I.step (g' := s.gens) (d' := s.drawn) (ch := []) (fun _ z => nomatch z) (fun b o _ hb _ e n => u.keep b o e n hb (by simp)) (fun b o _ hb _ e n => u.slot b o e n hb (by simp)) (fun b o _ e n => u.free b o e n (by simp)) (fun b o _ e => u.there b o e (by simp)) u.tups u.frzs u.tbls (fun m' hm => by
    obtain ⟨o', es', ep', ho', r'⟩ := hm
    rw [ho] at ho'; cases ho'
    exact ⟨_, es', ep', hL, r'⟩) hok I.bare
/-- behind a call (or a comprehension's block): the slots of this frame may have changed too, the records at ch may have turned -/
theorem Inv.call {g' : Array GenState} {t' : Nat} {d' : Drawn} {ch : List Addr} (I : Inv X pins σ H s) (u : Un (frs X.stack) ch H H' s.heap h') (hok : HOk X.prog X.w H' h') (hg : AllBare g')
    (hch : ∀ b ∈ ch, (b ∈ X.ex ∨ X.s_0.heap.objs.size ≤ b) ∧ b ≠ X.env.locals ∧ (∀ x c, X.env.cells.lookup x = some c → c ≠ b) ∧ ∀ p ∈ X.pn ++ pins, p.1 ≠ b) :
    Inv X pins σ H' { s with heap := h', gens := g', drawn := d', toks := t' } := by
  obtain ⟨m, ⟨o, es, ep, ho, r⟩, _⟩ := id I.loc
  obtain ⟨sl, hL⟩ := u.any ho I.free fun z => (hch _ z).2.1 rfl
  exact I.step (ch := ch) hch (fun b o hL hb hc e n => u.keep b o e n (fun z => (List.mem_cons.mp (I.stkSub b z)).elim hL hb) hc) (fun b o _ _ hc e n => u.any e n hc) (fun b o hc e n => u.free b o e n hc) (fun b o hc e => u.there b o e hc) u.tups u.frzs u.tbls (fun m' hm => by
    obtain ⟨o', es', ep', ho', r'⟩ := hm
    rw [ho] at ho'; cases ho'
    exact ⟨_, es', ep', hL, r'⟩) hok hg
/-- an untracked record of ours (an iterator) has turned -/
theorem Inv.turned {t' : Nat} {it : Addr} (I : Inv X pins σ H s) (k : ∀ b o, b ≠ it → s.heap.get? b = some o → h'.get? b = some o) (hn : H it = none) (hL : it ≠ X.env.locals)
    (h1 : it ∈ X.ex ∨ X.s_0.heap.objs.size ≤ it) (h2 : ∀ x c, X.env.cells.lookup x = some c → c ≠ it) (h3 : ∀ p ∈ X.pn ++ pins, p.1 ≠ it) : Inv X pins σ H { s with heap := h', toks := t' } := by
  have nit : ∀ b u, H b = some u → b ≠ it := fun b u e z => by rw [z, hn] at e; cases e
  refine I.step (g' := s.gens) (d' := s.drawn) (ch := [it]) (fun b hb => ?_) (fun b o _ _ hc e _ => k b o (fun z => hc (by simp [z])) e) (fun b o _ _ hc e _ => ⟨o.slots, k b o (fun z => hc (by simp [z])) e⟩) (fun _ _ _ _ n => n)
    (fun b o hc e => ⟨o, k b o (fun z => hc (by simp [z])) e⟩) (fun _ _ e => e) (fun _ _ _ e => e) (fun b ps e => ⟨#[], by rw [e]; simp⟩) (fun m hm => ?_) (fun b u e => ?_) I.bare
  · have e : b = it := by simpa using hb
    subst e
    exact ⟨h1, hL, h2, h3⟩
  · obtain ⟨o, es, ep, ho, r⟩ := hm
    exact ⟨o, es, ep, k _ o (Ne.symm hL) ho, r⟩
  · refine (I.hok b u e).stay (fun c v hc q => k c v ?_ q) (fun _ q => q) fun _ _ q => q
    rcases hc with z | z
    · rw [z]; exact nit b u e
    · exact nit c _ z
theorem Inv.tok (I : Inv X pins σ H s) (t : Nat) : Inv X pins σ H { s with toks := t } := I.un (h' := s.heap) (t' := t) Un.refl I.hok
/-- all objects kept -/
theorem Inv.kept {t' : Nat} (I : Inv X pins σ H s) (k : ∀ b u, s.heap.get? b = some u → h'.get? b = some u) : Inv X pins σ H { s with heap := h', toks := t' } := I.un (Un.kept k) (I.hok.kept k)
/-- a new object laid and tracked -/
theorem Inv.laid {a : Addr} {o : HO} {t' : Nat} (I : Inv X pins σ H s) (k : ∀ b u, s.heap.get? b = some u → h'.get? b = some u) (hp : s.heap.objs.size ≤ a) (new : ObjOk X.prog X.w (upd H a o) h' a o) :
    Inv X pins σ (upd H a o) { s with heap := h', toks := t' } := I.un (Un.laid k hp (I.hok.fresh hp)) (I.hok.laid k hp new)
/-- an object written -/
theorem Inv.write {x e : Addr} {o : HO} {t' : Nat} (I : Inv X pins σ H s) (mu : Mut (H x)) (he : e = x ∨ H e = some (.own x)) (k : ∀ b u, b ≠ e → s.heap.get? b = some u → h'.get? b = some u) (heo : ∃ u, h'.get? e = some u)
    (new : ObjOk X.prog X.w (upd H x o) h' x o) : Inv X pins σ (upd H x o) { s with heap := h', toks := t' } := I.un (Un.write mu he k heo) (I.hok.write mu he k heo new)
theorem Inv.pins_of {pins' : List (Addr × Obj)} (I : Inv X pins σ H s) (h : ∀ p ∈ pins', s.heap.get? p.1 = some p.2 ∧ H p.1 = none ∧ p.1 ≠ X.env.locals ∧ p.1 ∉ X.fs ∧ ∀ v, p.2.data ≠ .cell v) : Inv X pins' σ H s :=
  ⟨I.ok, I.os, I.bare, I.base, I.loc, I.cell, I.free, I.freeC, fun p hp => (List.mem_append.mp hp).elim (fun z => I.pin p (List.mem_append_left _ z)) (h p), I.hok, I.len⟩

theorem nodup_ix {N : List Str} (hN : N.Nodup) {i j : Nat} {x : Str} (a : N[i]? = some x) (b : N[j]? = some x) : i = j := by
  obtain ⟨h1, e1⟩ := List.getElem?_eq_some_iff.mp a
  obtain ⟨h2, e2⟩ := List.getElem?_eq_some_iff.mp b
  exact (List.getElem_inj hN).mp (e1.trans e2.symm)

/-- a name is stored; what changed -/
theorem store_ok2 {M : Model} {A : Around} {E : Value → Shared → Prop} {i : Nat} {x : Str} {v : V} {u : Value} {Q : Unit → Shared → Prop} (I : Inv X pins σ H s) (hN : X.N.Nodup) (hi : X.N[i]? = some x) (hx : Loc X.env.scope x) (r : RelV v u)
    (h : ∀ s', Inv X pins (σ.set i (some v)) H s' → (∃ a, Heap.SameBut a s.heap s'.heap ∧ (a = X.env.locals ∨ X.env.cells.lookup x = some a)) → Q () s') (hf : X.fn x = true ∨ X.env.scope.names.lookup x = some .local := by first | exact .inl rfl | exact .inr rfl | assumption) : wpAny M A (storeName X.env x u) Q E s := by
  obtain ⟨m, hn, hl⟩ := id I.loc
  have hcls : (X.env.scope.kind == .class || (X.env.scope.kind == .module && X.env.locals != X.env.globals)) = false := by rw [I.ok.kind]; rfl
  have hiσ : i < σ.length := by rw [I.len]; exact (List.getElem?_eq_some_iff.mp hi).1
  have cne := I.cne
  have tracked : ∀ {a : Addr} {h' : Heap}, (∃ o, s.heap.get? a = some o ∧ H a = none) → Heap.SameBut a s.heap h' → HOk X.prog X.w H h' := fun {a h'} ha hs b ob e => by
    obtain ⟨_, _, hfree⟩ := ha
    refine (I.hok b ob e).stay (fun c w' hc q => (hs.2 c ?_).trans q) (fun _ q => q) fun _ _ q => q
    rintro rfl
    rcases hc with rfl | hc
    · rw [hfree] at e; cases e
    · rw [hfree] at hc; cases hc
  rcases hx with hk | hk
  · refine wpAny_storeName_local hk hn (fun h' hn' hs => ?_) hcls
    obtain ⟨oL, _, _, hoL, _⟩ := id hn
    refine h _ ⟨I.ok, I.os, I.bare, ⟨fun b o e n hb hx => ?_, fun b o e n hb hx => ?_, I.base.free, fun b o e hx => ?_, I.base.tups, I.base.frzs, I.base.tbls⟩, ⟨_, hn', fun j y v' e1 e2 e3 => ?_⟩, fun y c e => ?_, I.free, I.freeC, fun p hp => ?_, tracked ⟨oL, hoL, I.free⟩ hs, by simpa using I.len⟩ ⟨_, hs, .inl rfl⟩
    · exact (hs.2 b (Nat.ne_of_lt (Nat.lt_of_lt_of_le (Heap.lt_size e) I.ok.above))).trans (I.base.keep b o e n hb hx)
    · obtain ⟨sl, e1⟩ := I.base.slot b o e n hb hx
      exact ⟨sl, (hs.2 b (Nat.ne_of_lt (Nat.lt_of_lt_of_le (Heap.lt_size e) I.ok.above))).trans e1⟩
    · obtain ⟨o', e1⟩ := I.base.there b o e hx
      exact ⟨o', (hs.2 b (Nat.ne_of_lt (Nat.lt_of_lt_of_le (Heap.lt_size e) I.ok.above))).trans e1⟩
    · by_cases hj : j = i
      · subst hj
        rw [hi] at e1; cases e1
        rw [List.getElem?_set_self hiσ] at e2
        cases e2
        exact ⟨u, r, .inl ⟨hk, by simp⟩⟩
      · rw [List.getElem?_set_ne (Ne.symm hj)] at e2
        obtain ⟨u', r', q⟩ := hl j y v' e1 e2 e3
        refine ⟨u', r', ?_⟩
        rcases q with ⟨k, e⟩ | ⟨k, c, e, z⟩
        · refine .inl ⟨k, ?_⟩
          have : y ≠ x := fun e => hj (nodup_ix hN e1 (e ▸ hi))
          simp [this, e]
        · exact .inr ⟨k, c, e, z.sameBut hs (cne y c e)⟩
    · obtain ⟨w', z⟩ := I.cell y c e
      exact ⟨w', z.sameBut hs (cne y c e)⟩
    · obtain ⟨e, n, ne, nf, d⟩ := I.pin p hp
      exact ⟨(hs.2 p.1 ne).trans e, n, ne, nf, d⟩
  · have hfn : X.fn x = true := by
      rcases hf with z | z
      · exact z
      · rw [z] at hk; cases hk
    obtain ⟨c, hc⟩ := I.ok.has x (.inl hk)
    obtain ⟨w', z⟩ := I.cell x c hc
    refine wpAny_storeName_cell I.ok.kind hk hc z (fun h' hc' hs => ?_)
    obtain ⟨oc, hoc, hocd⟩ := id z
    refine h { s with heap := h' } ⟨I.ok, I.os, I.bare, ⟨fun b o e n hb hx => ?_, fun b o e n hb hx => ?_, I.base.free, fun b o e hx => ?_, I.base.tups, I.base.frzs, I.base.tbls⟩, ⟨m, hn.sameBut hs (Ne.symm (cne x c hc)), fun j y v' e1 e2 e3 => ?_⟩, fun y c' e => ?_, I.free, I.freeC, fun p hp => ?_, tracked ⟨oc, hoc, I.freeC x c hc⟩ hs, by simpa using I.len⟩ ⟨c, hs, .inr hc⟩
    · exact (hs.2 b (Nat.ne_of_lt (Nat.lt_of_lt_of_le (Heap.lt_size e) (I.ok.cab x c hfn hc)))).trans (I.base.keep b o e n hb hx)
    · obtain ⟨sl, e1⟩ := I.base.slot b o e n hb hx
      exact ⟨sl, (hs.2 b (Nat.ne_of_lt (Nat.lt_of_lt_of_le (Heap.lt_size e) (I.ok.cab x c hfn hc)))).trans e1⟩
    · obtain ⟨o', e1⟩ := I.base.there b o e hx
      exact ⟨o', (hs.2 b (Nat.ne_of_lt (Nat.lt_of_lt_of_le (Heap.lt_size e) (I.ok.cab x c hfn hc)))).trans e1⟩
    · by_cases hj : j = i
      · subst hj
        rw [hi] at e1; cases e1
        rw [List.getElem?_set_self hiσ] at e2
        cases e2
        exact ⟨u, r, .inr ⟨.inl hk, c, hc, hc'⟩⟩
      · rw [List.getElem?_set_ne (Ne.symm hj)] at e2
        obtain ⟨u', r', q⟩ := hl j y v' e1 e2 e3
        refine ⟨u', r', ?_⟩
        rcases q with q | ⟨k, c', e, z'⟩
        · exact .inl q
        · refine .inr ⟨k, c', e, z'.sameBut hs ?_⟩
          rintro rfl
          exact hj (nodup_ix hN e1 (I.ok.inj _ _ _ e hc ▸ hi))
    · by_cases hcc : c' = c
      · subst hcc; exact ⟨_, hc'⟩
      · obtain ⟨w2, z2⟩ := I.cell y c' e
        exact ⟨w2, z2.sameBut hs hcc⟩
    · obtain ⟨e, n, ne, nf, d⟩ := I.pin p hp
      refine ⟨(hs.2 p.1 ?_).trans e, n, ne, nf, d⟩
      intro q
      rw [q, hoc] at e
      have q' : oc = p.2 := Option.some.inj e
      exact d w' (by rw [← q']; exact hocd)
theorem store_ok {M : Model} {A : Around} {E : Value → Shared → Prop} {i : Nat} {x : Str} {v : V} {u : Value} {Q : Unit → Shared → Prop} (I : Inv X pins σ H s) (hN : X.N.Nodup) (hi : X.N[i]? = some x) (hx : Loc X.env.scope x) (r : RelV v u)
    (h : ∀ s', Inv X pins (σ.set i (some v)) H s' → Q () s') (hf : X.fn x = true ∨ X.env.scope.names.lookup x = some .local := by first | exact .inl rfl | exact .inr rfl | assumption) : wpAny M A (storeName X.env x u) Q E s :=
  store_ok2 I hN hi hx r (fun s' I' _ => h s' I') hf
end

/-! ### the judgements -/
/-- an exception: its class, its own dict's address (where it has one), the abstract heap behind it -/
abbrev XK := Value → Option Addr → Hp → Prop
abbrev St := List (Option V)
abbrev VK := V → Hp → Prop
/-- an expression's reading; a test's; an argument list's -/
abbrev TE := St → Hp → VK → Prop
abbrev TT := St → Hp → (Bool → Hp → Prop) → Prop
abbrev TA := St → Hp → (List V → Hp → Prop) → Prop
/-- what is wanted behind a statement -/
structure Ends where
  nx : St → Hp → Prop
  rt : VK
  bk : St → Hp → Prop := fun _ _ => False
  ct : St → Hp → Prop := fun _ _ => False
abbrev TS := Ends → St → Hp → Prop

def EP (X : Cx) (pins : List (Addr × Obj)) (σ : St) (Q : VK) (u : Value) (s' : Shared) : Prop := ∃ v H', Inv X pins σ H' s' ∧ RelV v u ∧ Q v H'
def TP (X : Cx) (pins : List (Addr × Obj)) (σ : St) (Q : Bool → Hp → Prop) (b : Bool) (s' : Shared) : Prop := ∃ H', Inv X pins σ H' s' ∧ Q b H'
def AP (X : Cx) (pins : List (Addr × Obj)) (σ : St) (Q : List V → Hp → Prop) (us : List Value) (s' : Shared) : Prop := ∃ vs H', Inv X pins σ H' s' ∧ Vals vs us ∧ Q vs H'
def SP (X : Cx) (pins : List (Addr × Obj)) (D : Ends) (f : Flow) (s' : Shared) : Prop :=
  match f with
  | .next => ∃ σ' H', Inv X pins σ' H' s' ∧ D.nx σ' H'
  | .brk => ∃ σ' H', Inv X pins σ' H' s' ∧ D.bk σ' H'
  | .cont => ∃ σ' H', Inv X pins σ' H' s' ∧ D.ct σ' H'
  | .ret u => ∃ v σ' H', Inv X pins σ' H' s' ∧ RelV v u ∧ D.rt v H'

def PE (X : Cx) (e : Expr) (t : TE) : Prop :=
  ∀ (pins : List (Addr × Obj)) (s : Shared) (σ : St) (H : Hp) (Q : VK), Inv X pins σ H s → t σ H Q → wpAny (model X.prog X.w) X.A (eval e X.env) (EP X pins σ Q) X.xe s
def PT (X : Cx) (e : Expr) (t : TT) : Prop :=
  ∀ (pins : List (Addr × Obj)) (s : Shared) (σ : St) (H : Hp) (Q : Bool → Hp → Prop), Inv X pins σ H s → t σ H Q → wpAny (model X.prog X.w) X.A (isTrue e X.env (eval e X.env)) (TP X pins σ Q) X.xe s
/-- a test whatever its 'whole' is (and, or) -/
def PW (X : Cx) (e : Expr) (t : TT) : Prop :=
  ∀ (whole : Sem Value) (pins : List (Addr × Obj)) (s : Shared) (σ : St) (H : Hp) (Q : Bool → Hp → Prop), Inv X pins σ H s → t σ H Q → wpAny (model X.prog X.w) X.A (isTrue e X.env whole) (TP X pins σ Q) X.xe s
theorem PW.pt {X : Cx} {e : Expr} {t : TT} (h : PW X e t) : PT X e t := h _
/-- an argument list (no star), from the left -/
def PA (X : Cx) (es : List Expr) (t : TA) : Prop :=
  ∀ (pos : Pos) (pins : List (Addr × Obj)) (s : Shared) (σ : St) (H : Hp) (Q : List V → Hp → Prop), Inv X pins σ H s → t σ H Q → wpAny (model X.prog X.w) X.A (spliced (backTo pos (starEach es X.env))) (AP X pins σ Q) X.xe s
def PS (X : Cx) (st : Stmt) (t : TS) : Prop :=
  ∀ (pins : List (Addr × Obj)) (s : Shared) (σ : St) (H : Hp) (D : Ends), Inv X pins σ H s → t D σ H → wpAny (model X.prog X.w) X.A (exec st X.env) (SP X pins D) X.xe s
def PSs (X : Cx) (st : List Stmt) (t : TS) : Prop :=
  ∀ (pins : List (Addr × Obj)) (s : Shared) (σ : St) (H : Hp) (D : Ends), Inv X pins σ H s → t D σ H → wpAny (model X.prog X.w) X.A (execs st X.env) (SP X pins D) X.xe s
/-- weaken the end -/
theorem thn {α : Type} {t : Sem α} {Q Q' : α → Shared → Prop} {M : Model} {A : Around} {E : Value → Shared → Prop} {s : Shared} (h : wpAny M A t Q E s) (hQ : ∀ a s, Q a s → Q' a s) : wpAny M A t Q' E s := wpAny_mono h hQ fun _ _ x => x
end L2

namespace L2
open PySem PySem.Spec PyProof.Rows
section
variable {X : Cx}

/-- two expressions in a row -/
theorem bin {a b : Expr} {ta tb : TE} (ha : PE X a ta) (hb : PE X b tb) {pins : List (Addr × Obj)} {s : Shared} {σ : St} {H : Hp} {R : V → V → Hp → Prop} (I : Inv X pins σ H s) (h : ta σ H fun x H1 => tb σ H1 fun y H2 => R x y H2)
    {α : Type} {Q : α → Shared → Prop} {f : Value → Value → Sem α}
    (hf : ∀ v u s2 x y H2, Inv X pins σ H2 s2 → RelV x v → RelV y u → R x y H2 → wpAny (model X.prog X.w) X.A (f v u) Q X.xe s2) :
    wpAny (model X.prog X.w) X.A (eval a X.env) (fun v s₁ => wpAny (model X.prog X.w) X.A (eval b X.env) (fun u s₂ => wpAny (model X.prog X.w) X.A (f v u) Q X.xe s₂) X.xe s₁) X.xe s := by
  refine thn (ha pins s σ H _ I h) fun v s1 ⟨x, H1, I1, r1, q1⟩ => ?_
  refine thn (hb pins s1 σ H1 _ I1 q1) fun u s2 ⟨y, H2, I2, r2, q2⟩ => ?_
  exact hf v u s2 x y H2 I2 r1 r2 q2

/-! ### names and constants -/
def tVar (i : Nat) : TE := fun σ H Q => ∃ v, σ[i]? = some (some v) ∧ Q v H
def tC (v : V) : TE := fun _ H Q => Q v H
theorem pe_var {i : Nat} {x : Str} {pos : Pos} (hN : X.N[i]? = some x) (hv : Vis X.env.scope x) (hd : (x == ("__debug__" : Str)) = false := by decide) (hcd : (x == ("__classdict__" : Str)) = false := by decide) : PE X (.Name x pos) (tVar i) := by
  intro pins s σ H Q I h
  obtain ⟨v, e, h⟩ := h
  obtain ⟨m, hn, hl⟩ := I.loc
  obtain ⟨u, r, l⟩ := hl i x v hN e hv
  have fin : EP X pins σ Q u s := ⟨v, H, I, r, h⟩
  rcases l with ⟨hk, hm⟩ | ⟨hk, c, hc, hcell⟩
  · exact wpAny_Name (wpAny_loadName_local I.ok.kind hk hn hm fin) hd
  · rcases hk with hk | hk
    · exact wpAny_Name (wpAny_loadName_cell I.ok.kind hk hc hcell fin) hd
    · exact wpAny_Name (wpAny_loadName_free I.ok.kind hk hc hcell fin hcd) hd
theorem pe_int {i j pos} : PE X (.Constant (.int i) j pos) (tC (.int i)) := fun _ _ _ H _ I h => wpAny_Constant_int ⟨.int i, H, I.tok _, ⟨_, rfl⟩, h⟩
theorem pe_non {j pos} : PE X (.Constant .none j pos) (tC .non) := fun _ _ _ H _ I h => Constant_none ⟨.non, H, I, rfl, h⟩

/-- a global name of the def -/
def Gl (X : Cx) (x : Str) : Prop := X.env.kindOf x = some .globalImplicit
theorem ld_glob {E : Value → Shared → Prop} {pins : List (Addr × Obj)} {s : Shared} {σ : St} {H : Hp} {x : Str} {u : Value} {pos : Pos} {Q : Value → Shared → Prop} (I : Inv X pins σ H s) (hg : Gl X x) (hm : X.mg x = some u) (h : Q u s)
    (hd : (x == ("__debug__" : Str)) = false := by decide) : wpAny (model X.prog X.w) X.A (eval (.Name x pos) X.env) Q E s :=
  Calls.Name_function_global I.ok.kind hg (Calls.loadGlobal_global (by rw [I.ok.glob]; exact I.mod.glob.keeps I.bk) hm h) hd
theorem ld_blt {E : Value → Shared → Prop} {pins : List (Addr × Obj)} {s : Shared} {σ : St} {H : Hp} {x : Str} {u : Value} {pos : Pos} {Q : Value → Shared → Prop} (I : Inv X pins σ H s) (hg : Gl X x) (hm : X.mg x = none) (hv : bootBuiltins x = some u) (h : Q u s)
    (hn : x ≠ "__name__" := by decide) (hd : (x == ("__debug__" : Str)) = false := by decide) : wpAny (model X.prog X.w) X.A (eval (.Name x pos) X.env) Q E s := by
  obtain ⟨mb, h1, h2⟩ := I.mod.blt
  exact Calls.Name_function_global I.ok.kind hg (Calls.loadGlobal_builtin (by rw [I.ok.glob]; exact I.mod.glob.keeps I.bk) hm (by rw [I.ok.blt]; exact h1.keeps I.bk) ((h2 x hn).trans hv) h) hd
/-- a module's constant, a class, a function, as a value -/
theorem pe_glob {x : Str} {v : V} {u : Value} {pos : Pos} (hg : Gl X x) (hm : X.mg x = some u) (r : RelV v u) (hd : (x == ("__debug__" : Str)) = false := by decide) : PE X (.Name x pos) (tC v) :=
  fun _ _ _ H _ I h => ld_glob I hg hm ⟨v, H, I, r, h⟩ hd

/-! ### arithmetic -/
variable {a b : Expr} {ta tb : TE} {pos : Pos}

/-! ### comparisons -/
def PC (X : Cx) (op : CmpOp) (a b : Expr) (t : TE) : Prop :=
  ∀ (pins : List (Addr × Obj)) (s : Shared) (σ : St) (H : Hp) (Q : VK), Inv X pins σ H s → t σ H Q →
    wpAny (model X.prog X.w) X.A (eval a X.env) (fun v s₁ => wpAny (model X.prog X.w) X.A (eval b X.env) (fun u s₂ => wpAny (model X.prog X.w) X.A (compareOp op v u) (EP X pins σ Q) X.xe s₂) X.xe s₁) X.xe s
theorem nobehind (b : Expr) {op : CmpOp} (h : op ≠ .In) (h2 : op ≠ .NotIn) : behindInMarks op b = false := by
  have e1 : (op == CmpOp.In) = false := by cases op <;> first | rfl | exact absurd rfl h
  have e2 : (op == CmpOp.NotIn) = false := by cases op <;> first | rfl | exact absurd rfl h2
  cases b <;> simp [behindInMarks, e1, e2]
/-- is None -/
def tIsN (ta : TE) : TE := fun σ H Q => ta σ H fun x H1 => Q (.bl (decide (x = .non))) H1
def tNotN (ta : TE) : TE := fun σ H Q => ta σ H fun x H1 => Q (.bl (!decide (x = .non))) H1
theorem RelV.none_iff {x : V} {v : Value} (r : RelV x v) : (v == Value.none) = decide (x = .non) := by
  cases x with
  | non => cases r; rfl
  | bl _ => cases r; rfl
  | int _ => obtain ⟨t, rfl⟩ := r; rfl
  | str _ => obtain ⟨t, rfl⟩ := r; rfl
  | byt _ => obtain ⟨t, rfl⟩ := r; rfl
  | flt _ => obtain ⟨t, rfl⟩ := r; rfl
  | ref _ => cases r; rfl
  | ty _ => cases r; rfl
theorem pc_isN {j pos'} (ha : PE X a ta) : PC X .Is a (.Constant .none j pos') (tIsN ta) := by
  intro pins s σ H Q I h
  refine thn (ha pins s σ H _ I h) fun v s1 ⟨x, H1, I1, r1, q1⟩ => ?_
  exact Constant_none (is_none_gen ⟨.bl _, H1, I1, by rw [r1.none_iff]; rfl, q1⟩)
theorem pc_notN {j pos'} (ha : PE X a ta) : PC X .IsNot a (.Constant .none j pos') (tNotN ta) := by
  intro pins s σ H Q I h
  refine thn (ha pins s σ H _ I h) fun v s1 ⟨x, H1, I1, r1, q1⟩ => ?_
  exact Constant_none (isnot_none_gen ⟨.bl _, H1, I1, by rw [r1.none_iff]; rfl, q1⟩)
/-- a comparison as a value, as a test -/
def tB (t : TE) : TT := fun σ H Q => t σ H fun x H1 => ∃ c, x = .bl c ∧ Q c H1
theorem pt_cmp {op : CmpOp} {t : TE} (h : PC X op a b t) (h1 : behindInMarks op b = false := by first | exact nobehind _ (by decide) (by decide) | rfl) : PT X (.Compare a [op] [b] pos) (tB t) := by
  intro pins s σ H Q I hw
  refine wpAny_isTrue_Compare1 (thn (h pins s σ H _ I hw) fun v s1 h1 => thn h1 fun u s2 h2 => thn h2 fun c s3 ⟨x, H1, I1, r1, q1⟩ => ?_) h1
  obtain ⟨d, rfl, q⟩ := q1
  cases r1
  exact wpAny_truthy_bool ⟨H1, I1, q⟩
/-- an expression whose value is a bool, as a test -/
theorem pt_val {e : Expr} {t : TE} (h : PE X e t) (he : ∀ whole, isTrue e X.env whole = (do let v ← whole; standAt e.pos; holding [v] (truthy v)) := by intro _; rfl) : PT X e (tB t) := by
  intro pins s σ H Q I hw
  refine isTrue_plain (thn (h pins s σ H _ I hw) fun v s1 ⟨x, H1, I1, r1, q1⟩ => ?_) (he _)
  obtain ⟨d, rfl, q⟩ := q1
  cases r1
  exact wpAny_truthy_bool ⟨H1, I1, q⟩

/-! ### and, or, not -/
variable {tA tB' : TT} {rest : List Expr}
def tOr (t u : TT) : TT := fun σ H Q => t σ H fun c H1 => if c = true then Q true H1 else u σ H1 Q
def tNot (t : TT) : TT := fun σ H Q => t σ H fun c H1 => Q (!c) H1
theorem pw_or1 (ha : PT X a tA) : PW X (.BoolOp .Or [a] pos) tA := by
  intro wh pins s σ H Q I h
  refine isTrue_or (thn (ha pins s σ H Q I h) fun c s1 e => ?_)
  cases c with
  | false => exact isTrue_or_nil e
  | true => exact e
theorem pw_or (ha : PT X a tA) (hb : PW X (.BoolOp .Or (b :: rest) pos) tB') : PW X (.BoolOp .Or (a :: b :: rest) pos) (tOr tA tB') := by
  intro wh pins s σ H Q I h
  refine isTrue_or (thn (ha pins s σ H _ I h) fun c s1 ⟨H1, I1, q1⟩ => ?_)
  cases c with
  | true => exact ⟨H1, I1, q1⟩
  | false => exact hb wh pins s1 σ H1 Q I1 q1
theorem pt_not (ha : PT X a tA) : PT X (.UnaryOp .Not a pos) (tNot tA) := by
  intro pins s σ H Q I h
  exact isTrue_not (ha pins s σ H (fun c H1 => Q (!c) H1) I h)
/-- .. as values (bools) -/
def tAndV (ta tb : TE) : TE := fun σ H Q => ta σ H fun x H1 => ∃ c, x = .bl c ∧ if c = true then tb σ H1 Q else Q (.bl false) H1
theorem pe_one {op} {t : TE} (h : PE X a t) : PE X (.BoolOp op [a] pos) t := fun pins s σ H Q I hw => BoolOp_one (h pins s σ H Q I hw)
theorem pe_and (ha : PE X a ta) (hb : PE X (.BoolOp .And (b :: rest) pos) tb) : PE X (.BoolOp .And (a :: b :: rest) pos) (tAndV ta tb) := by
  intro pins s σ H Q I h
  refine BoolOp_and (thn (ha pins s σ H _ I h) fun v s1 ⟨x, H1, I1, r1, q1⟩ => ?_)
  obtain ⟨c, rfl, q1⟩ := q1
  cases r1
  refine wpAny_truthy_bool ?_
  cases c with
  | true => exact hb pins s1 σ H1 Q I1 q1
  | false => exact ⟨.bl false, H1, I1, rfl, q1⟩
/-- a if t else b -/
def tIf (t : TT) (ta tb : TE) : TE := fun σ H Q => t σ H fun c H1 => if c = true then ta σ H1 Q else tb σ H1 Q
theorem pe_ifExp {c : Expr} (hc : PT X c tA) (ha : PE X a ta) (hb : PE X b tb) : PE X (.IfExp c a b pos) (tIf tA ta tb) := by
  intro pins s σ H Q I h
  refine wpAny_IfExp (thn (hc pins s σ H _ I h) fun d s1 ⟨H1, I1, q1⟩ => ?_)
  cases d with
  | true => exact ha pins s1 σ H1 Q I1 q1
  | false => exact hb pins s1 σ H1 Q I1 q1
end
end L2

namespace L2
open PySem PySem.Spec PyProof.Rows

/-! ### a list, a tuple that is read: tracked, frozen, or an object of the module -/
def SqL (K : PySem.W.Frag) (H : Hp) (a : Addr) (xs : List V) : Prop :=
  Rd H a (.lst xs) ∨
    ∃ (o : Obj) (its : Array Value) (n : Nat), K.lookup a = some o ∧ o.cls = .type "list" ∧ o.dict = none ∧ o.data = .seq its n ∧ its.size ≤ sizeLine ∧ Vals xs its.toList
def SqT (K : PySem.W.Frag) (H : Hp) (a : Addr) (xs : List V) : Prop :=
  Rd H a (.tup xs) ∨
    ∃ (o : Obj) (its : Array Value) (n : Nat), K.lookup a = some o ∧ o.cls = .type "tuple" ∧ o.data = .seq its n ∧ its.size ≤ sizeLine ∧ Vals xs its.toList
def absV : Value → Option V
  | .none => some .non
  | .bool b => some (.bl b)
  | .int i _ => some (.int i)
  | .str x _ => some (.str x)
  | .bytes b _ => some (.byt b)
  | .float b _ => some (.flt b)
  | .ref a => some (.ref a)
  | .type n => some (.ty n)
  | _ => none
theorem RelV.abs {x : V} {u : Value} (r : RelV x u) : absV u = some x := by
  cases x with
  | non => cases r; rfl
  | bl _ => cases r; rfl
  | int _ => obtain ⟨t, rfl⟩ := r; rfl
  | str _ => obtain ⟨t, rfl⟩ := r; rfl
  | byt _ => obtain ⟨t, rfl⟩ := r; rfl
  | flt _ => obtain ⟨t, rfl⟩ := r; rfl
  | ref _ => cases r; rfl
  | ty _ => cases r; rfl
theorem RelV.inj {x y : V} {u : Value} (r : RelV x u) (q : RelV y u) : x = y := Option.some.inj (r.abs.symm.trans q.abs)
theorem Vals.inj : ∀ {xs ys : List V} {us : List Value}, Vals xs us → Vals ys us → xs = ys
  | _, _, _, .nil, .nil => rfl
  | _, _, _, .cons r t, .cons r' t' => by rw [r.inj r', Vals.inj t t']
section
variable {X : Cx} {pins : List (Addr × Obj)} {σ : St} {H : Hp} {s : Shared} {a : Addr} {xs ys : List V}
theorem SqL.of {K : PySem.W.Frag} (h : H a = some (.lst xs)) : SqL K H a xs := .inl (.inl h)
theorem SqT.of {K : PySem.W.Frag} (h : H a = some (.tup xs)) : SqT K H a xs := .inl (.inl h)
theorem Inv.list (I : Inv X pins σ H s) (h : SqL X.K H a xs) : ∃ its : List Value, Vals xs its ∧ PlainL s.heap a its.toArray ∧ xs.length ≤ sizeLine := by
  rcases h with h | ⟨o, its, n, hk, hc, hd, hs, hz, r⟩
  · obtain ⟨z, its, n, r, e⟩ := h.ok I.hok
    exact ⟨its, r, ⟨_, n, e, rfl, rfl, rfl⟩, z⟩
  · refine ⟨its.toList, r, ⟨o, n, I.kIn a o hk, hc, hd, by simpa using hs⟩, ?_⟩
    have e := r.length
    simp only [Array.length_toList] at e
    omega
theorem Inv.tuple (I : Inv X pins σ H s) (h : SqT X.K H a xs) : ∃ its : List Value, Vals xs its ∧ IsTup s.heap a its.toArray ∧ xs.length ≤ sizeLine := by
  rcases h with h | ⟨o, its, n, hk, hc, hs, hz, r⟩
  · obtain ⟨z, its, r, p⟩ := h.ok I.hok
    exact ⟨its, r, p, z⟩
  · refine ⟨its.toList, r, ⟨o, I.kIn a o hk, hc, n, by simpa using hs⟩, ?_⟩
    have e := r.length
    simp only [Array.length_toList] at e
    omega
theorem Inv.list_inj (I : Inv X pins σ H s) (h : SqL X.K H a xs) (h' : SqL X.K H a ys) : xs = ys := by
  obtain ⟨its, r, ⟨o, n, e, _, _, d⟩, _⟩ := I.list h
  obtain ⟨its', r', ⟨o', n', e', _, _, d'⟩, _⟩ := I.list h'
  rw [e] at e'; cases e'
  rw [d] at d'
  injection d' with d1 _
  have : its = its' := by simpa using congrArg Array.toList d1
  subst this
  exact r.inj r'
theorem Inv.tuple_inj (I : Inv X pins σ H s) (h : SqT X.K H a xs) (h' : SqT X.K H a ys) : xs = ys := by
  obtain ⟨its, r, ⟨o, e, _, n, d⟩, _⟩ := I.tuple h
  obtain ⟨its', r', ⟨o', e', _, n', d'⟩, _⟩ := I.tuple h'
  rw [e] at e'; cases e'
  rw [d] at d'
  injection d' with d1 _
  have : its = its' := by simpa using congrArg Array.toList d1
  subst this
  exact r.inj r'
end

/-! ### another wish about exceptions -/
abbrev Cx.wish (X : Cx) (E : Value → Shared → Prop) : Cx := { X with xe := E }
/-- no exception leaves -/
abbrev Cx.nox (X : Cx) : Cx := X.wish fun _ _ => False
theorem Cx.Ok.wish {X : Cx} (ok : X.Ok) (E : Value → Shared → Prop) : (X.wish E).Ok :=
  ⟨ok.mod, ok.kind, ok.glob, ok.blt, ok.above, ok.inj, ok.has, ok.cab, ok.hd, ok.frames, ok.stk, ok.exf, ok.bs, ok.bsz, ok.noex, ok.exfs, ok.funs, ok.frf⟩
theorem Cx.Ok.unwish {X : Cx} {E : Value → Shared → Prop} (ok : (X.wish E).Ok) : X.Ok :=
  ⟨ok.mod, ok.kind, ok.glob, ok.blt, ok.above, ok.inj, ok.has, ok.cab, ok.hd, ok.frames, ok.stk, ok.exf, ok.bs, ok.bsz, ok.noex, ok.exfs, ok.funs, ok.frf⟩
section
variable {X : Cx} {pins : List (Addr × Obj)} {σ : St} {H : Hp} {s : Shared} {E : Value → Shared → Prop}
theorem Inv.wish (I : Inv X pins σ H s) (E : Value → Shared → Prop) : Inv (X.wish E) pins σ H s := ⟨I.ok.wish E, I.os, I.bare, I.base, I.loc, I.cell, I.free, I.freeC, I.pin, I.hok, I.len⟩
theorem Inv.unwish (I : Inv (X.wish E) pins σ H s) : Inv X pins σ H s := ⟨I.ok.unwish, I.os, I.bare, I.base, I.loc, I.cell, I.free, I.freeC, I.pin, I.hok, I.len⟩
theorem SP.unwish {D : Ends} {f : Flow} {s' : Shared} (h : SP (X.wish E) pins D f s') : SP X pins D f s' := by
  cases f with
  | next => obtain ⟨σ', H', I, q⟩ := h; exact ⟨σ', H', I.unwish, q⟩
  | brk => obtain ⟨σ', H', I, q⟩ := h; exact ⟨σ', H', I.unwish, q⟩
  | cont => obtain ⟨σ', H', I, q⟩ := h; exact ⟨σ', H', I.unwish, q⟩
  | ret u => obtain ⟨v, σ', H', I, r, q⟩ := h; exact ⟨v, σ', H', I.unwish, r, q⟩
theorem PSs.nox {st : List Stmt} {t : TS} (h : PSs X.nox st t) : PSs X st t := fun pins s σ H D I hw =>
  wpAny_mono (h pins s σ H D (I.wish _) hw) (fun _ _ q => q.unwish) fun _ _ z => False.elim z
end

/-! ### blocks and small statements -/
section
variable {X : Cx} {st : Stmt} {rest : List Stmt} {t u : TS} {e : Expr} {te : TE} {pos : Pos}
def tNext : TS := fun D σ H => D.nx σ H
def tSeq (t u : TS) : TS := fun D σ H => t { D with nx := u D } σ H
theorem pss_nil : PSs X [] tNext := fun _ _ σ H _ I h => wpAny_execs_nil ⟨σ, H, I, h⟩
theorem pss_cons (h1 : PS X st t) (h2 : PSs X rest u) : PSs X (st :: rest) (tSeq t u) := by
  intro pins s σ H D I h
  refine wpAny_execs_cons (thn (h1 pins s σ H { D with nx := u D } I h) fun f s1 q => ?_)
  cases f with
  | next =>
    obtain ⟨σ', H', I', q⟩ := q
    exact h2 pins s1 σ' H' D I' q
  | ret v => exact q
  | brk => exact q
  | cont => exact q
theorem pss_one (h1 : PS X st t) : PSs X [st] t := by
  intro pins s σ H D I h
  refine wpAny_execs_cons (thn (h1 pins s σ H D I h) fun f s1 q => ?_)
  cases f with
  | next => exact wpAny_execs_nil q
  | ret v => exact q
  | brk => exact q
  | cont => exact q
/-- in a def's body nothing is shown -/
theorem Inv.quiet {pins : List (Addr × Obj)} {σ : St} {H : Hp} {s : Shared} (I : Inv X pins σ H s) : interactive X.env = false := by simp [interactive, I.ok.kind]
/-- an expression whose value is dropped -/
def tDrop (te : TE) : TS := fun D σ H => te σ H fun _ H1 => D.nx σ H1
theorem ps_expr (he : PE X e te) (hs : swapsWith e none pos.line X.env = pure false := by rfl) : PS X (.Expr e pos) (tDrop te) := by
  intro pins s σ H D I h
  exact wpAny_Expr_any (thn (he pins s σ H _ I h) fun v s1 ⟨x, H1, I1, r1, q1⟩ => ⟨σ, H1, I1, q1⟩) I.quiet hs
def tRet (te : TE) : TS := fun D σ H => te σ H D.rt
theorem ps_ret (he : PE X e te) : PS X (.Return (some e) pos) (tRet te) := by
  intro pins s σ H D I h
  exact wpAny_Return_some (thn (he pins s σ H _ I h) fun v s1 ⟨x, H1, I1, r1, q1⟩ => ⟨x, σ, H1, I1, r1, q1⟩)
def tIfS (c : TT) (t u : TS) : TS := fun D σ H => c σ H fun b H1 => if b = true then t D σ H1 else u D σ H1
theorem ps_if {c : Expr} {a b : List Stmt} {tc : TT} (hc : PT X c tc) (ha : PSs X a t) (hb : PSs X b u) : PS X (.If c a b pos) (tIfS tc t u) := by
  intro pins s σ H D I h
  refine wpAny_If (thn (hc pins s σ H _ I h) fun d s1 ⟨H1, I1, q1⟩ => ?_)
  cases d with
  | true => exact ha pins s1 σ H1 D I1 q1
  | false => exact hb pins s1 σ H1 D I1 q1
/-- code that the proof never comes to -/
def tNever : TS := fun _ _ _ => False
theorem ps_never : PS X st tNever := fun _ _ _ _ _ _ h => h.elim
end

/-! ### targets -/
abbrev TG := V → St → Hp → (St → Hp → Prop) → Prop
abbrev TGs := List V → St → Hp → (St → Hp → Prop) → Prop
def PG (X : Cx) (target : Expr) (t : TG) : Prop :=
  ∀ (pins : List (Addr × Obj)) (s : Shared) (σ : St) (H : Hp) (v : V) (u : Value) (Q : St → Hp → Prop), Inv X pins σ H s → RelV v u → t v σ H Q →
    wpAny (model X.prog X.w) X.A (assign target X.env u) (fun _ s' => ∃ σ' H', Inv X pins σ' H' s' ∧ Q σ' H') X.xe s
/-- several targets, one after another -/
def PGs (X : Cx) (ts : List Expr) (t : TGs) : Prop :=
  ∀ (pins : List (Addr × Obj)) (s : Shared) (σ : St) (H : Hp) (vs : List V) (us : List Value) (Q : St → Hp → Prop), Inv X pins σ H s → Vals vs us → t vs σ H Q →
    wpAny (model X.prog X.w) X.A (assignInOrder ((assignEach ts X.env).map (·.2)) us) (fun _ s' => ∃ σ' H', Inv X pins σ' H' s' ∧ Q σ' H') X.xe s
/-- o[i] = v, by values -/
abbrev TSet := V → V → V → Hp → (Hp → Prop) → Prop
def PSet (X : Cx) (t : TSet) : Prop :=
  ∀ (pins : List (Addr × Obj)) (s : Shared) (σ : St) (H : Hp) (o i v : V) (ov iv u : Value) (Q : Hp → Prop), Inv X pins σ H s → RelV o ov → RelV i iv → RelV v u → t o i v H Q →
    wpAny (model X.prog X.w) X.A (setItem ov iv u) (fun _ s' => ∃ H', Inv X pins σ H' s' ∧ Q H') X.xe s
section
variable {X : Cx} {pos : Pos}
def gName (i : Nat) : TG := fun v σ H Q => Q (σ.set i (some v)) H
theorem pg_name {i : Nat} {x : Str} (hN : X.N.Nodup) (hi : X.N[i]? = some x) (hx : Loc X.env.scope x) (hf : X.fn x = true ∨ X.env.scope.names.lookup x = some .local := by first | exact .inl rfl | exact .inr rfl | assumption) : PG X (.Name x pos) (gName i) := by
  intro pins s σ H v u Q I r h
  exact wpAny_assign_Name (store_ok I hN hi hx r (fun s' I' => ⟨_, H, I', h⟩) hf)
def gNil : TGs := fun vs σ H Q => vs = [] ∧ Q σ H
def gCons (t : TG) (u : TGs) : TGs := fun vs σ H Q => ∃ v r, vs = v :: r ∧ t v σ H fun σ' H' => u r σ' H' Q
theorem pgs_nil : PGs X [] gNil := by
  intro pins s σ H vs us Q I r h
  obtain ⟨e, h⟩ := h
  subst e
  cases r
  exact assignInOrder_nil ⟨σ, H, I, h⟩
theorem pgs_cons {e : Expr} {es : List Expr} {t : TG} {u : TGs} (h1 : PG X e t) (h2 : PGs X es u)
    (hs : (assignEach (e :: es) X.env).map (·.2) = assign e X.env :: (assignEach es X.env).map (·.2) := by rfl) : PGs X (e :: es) (gCons t u) := by
  intro pins s σ H vs us Q I r h
  obtain ⟨v, vr, e1, h⟩ := h
  subst e1
  cases r with
  | cons r rr =>
    rw [hs]
    refine assignInOrder_cons (thn (h1 pins s σ H _ _ _ I r h) fun _ s1 ⟨σ1, H1, I1, q1⟩ => ?_)
    exact h2 pins s1 σ1 H1 _ _ Q I1 rr q1
/-- (a, b, ..) = a tuple of that length -/
def gTup (K : PySem.W.Frag) (n : Nat) (t : TGs) : TG := fun v σ H Q => ∃ a xs, v = .ref a ∧ SqT K H a xs ∧ xs.length = n ∧ t xs σ H Q
theorem pg_tup {es : List Expr} {k : Nat} {t : TGs} {n : Nat} (hc : X.calm = true) (h : PGs X es t)
    (hn : (assignEach es X.env).length = n := by rfl) (hst : (assignEach es X.env).findIdx? (·.1) = none := by rfl) : PG X (.Tuple es k pos) (gTup X.K n t) := by
  intro pins s σ H v u Q I r hw
  obtain ⟨a, xs, e1, hq, hl, hw⟩ := hw
  subst e1
  cases r
  obtain ⟨its, rv, ht, hz⟩ := I.tuple hq
  refine assign_Tuple_tuple (I.ok.hd hc) ht (by simp [hn, ← hl, rv.length]) hst fun h' hx => ?_
  have I1 : Inv X pins σ H { s with heap := h' } := I.kept (t' := s.toks) fun b o e => hx b o (Nat.ne_of_lt (Heap.lt_size e)) e
  exact h pins _ σ H xs _ Q I1 (by simpa using rv) hw
/-- o[i] = .. -/
def gSub (to ti : TE) (t : TSet) : TG := fun v σ H Q => to σ H fun o H1 => ti σ H1 fun i H2 => t o i v H2 fun H3 => Q σ H3
theorem pg_sub {o i : Expr} {to ti : TE} {t : TSet} (ho : PE X o to) (hi : PE X i ti) (hs : PSet X t)
    (ha : ∀ v, assign (.Subscript o i pos) X.env v = (do
      let ov ← holding [v] (eval o X.env)
      let iv ← holding [v, ov] (eval i X.env)
      standAt pos
      holding [v, ov, iv] (setItem ov iv v)
      release [v, ov, iv] []) := by intro _; rfl) : PG X (.Subscript o i pos) (gSub to ti t) := by
  intro pins s σ H v u Q I r h
  rw [ha]
  refine wpAny_bind (wpAny_holding (thn (ho pins s σ H _ I h) fun ov s1 ⟨x, H1, I1, r1, q1⟩ => ?_))
  refine wpAny_bind (wpAny_holding (thn (hi pins s1 σ H1 _ I1 q1) fun iv s2 ⟨y, H2, I2, r2, q2⟩ => ?_))
  refine wpAny_bind (wpAny_standAt (wpAny_bind (wpAny_holding (thn (hs pins s2 σ H2 x y v ov iv u _ I2 r1 r2 r q2) fun _ s3 ⟨H3, I3, q3⟩ => ?_))))
  exact wpAny_release ⟨σ, H3, I3, q3⟩
/-- target = value -/
def tAsg (te : TE) (g : TG) : TS := fun D σ H => te σ H fun x H1 => g x σ H1 D.nx
theorem ps_asg {tg e : Expr} {te : TE} {g : TG} (he : PE X e te) (hg : PG X tg g) (hs : swapsWithSole [tg] e pos.line X.env = pure false := by rfl) (hw : swappedStores [tg] e X.env = pure none := by rfl)
    (h1 : (assignEach [tg] X.env).map (·.2) = [assign tg X.env] := by rfl) : PS X (.Assign [tg] e pos) (tAsg te g) := by
  intro pins s σ H D I h
  refine wpAny_Assign_stores (thn (he pins s σ H _ I h) fun v s1 ⟨x, H1, I1, r1, q1⟩ => ?_) hs hw
  rw [h1]
  exact thn (hg pins s1 σ H1 x v _ I1 r1 q1) fun _ s2 q => q
/-- name = value -/
theorem ps_set {i : Nat} {x : Str} {e : Expr} {te : TE} {pos' : Pos} (hN : X.N.Nodup) (hi : X.N[i]? = some x) (hx : Loc X.env.scope x) (he : PE X e te) (hs : swapsWith e (some (.Name x pos')) pos.line X.env = pure false := by rfl) (hf : X.fn x = true ∨ X.env.scope.names.lookup x = some .local := by first | exact .inl rfl | exact .inr rfl | assumption) :
    PS X (.Assign [.Name x pos'] e pos) (tAsg te (gName i)) := by
  intro pins s σ H D I h
  refine wpAny_Assign_Name (thn (he pins s σ H _ I h) fun v s1 ⟨y, H1, I1, r1, q1⟩ => ?_) hs
  exact store_ok I1 hN hi hx r1 (fun s2 I2 => ⟨_, H1, I2, q1⟩) hf
end

/-! ### while -/
section
variable {X : Cx} {pos : Pos}
/-- the invariant W with its measure -/
def tWhile (c : TT) (tb : TS) : TS := fun D σ H => ∃ W : Nat → St → Hp → Prop, (∃ m, W m σ H) ∧ ∀ m σ H, W m σ H →
  c σ H fun b H1 => if b = true then ∃ N : St → Hp → Prop, (∀ σ' H', N σ' H' → ∃ m', m' < m ∧ W m' σ' H') ∧ tb { D with nx := N, ct := N, bk := D.nx } σ H1 else D.nx σ H1
theorem ps_while {c : Expr} {body : List Stmt} {tc : TT} {tb : TS} (hp : PassesOwn (model X.prog X.w) X.A X.env X.xe) (hc : PT X c tc) (hb : PSs X body tb) : PS X (.While c body [] pos) (tWhile tc tb) := by
  intro pins s σ H D I h
  obtain ⟨W, ⟨m0, w0⟩, turn⟩ := h
  refine wpAny_While (codeAny_whileLoop (fun n s' => ∃ σ' H', Inv X pins σ' H' s' ∧ W n σ' H') ?_ m0 ⟨σ, H, I, w0⟩)
  rintro n s1 ⟨σ1, H1, I1, w1⟩
  refine wpAny_passesOwn hp (thn (hc pins s1 σ1 H1 _ I1 (turn n σ1 H1 w1)) fun b s2 ⟨H2, I2, q2⟩ => ?_)
  cases b with
  | true =>
    obtain ⟨N, hN, q2⟩ := q2
    rw [if_pos rfl]
    refine wpAny_passesOwn hp (thn (hb pins s2 σ1 H2 _ I2 q2) fun f s3 q3 => ?_)
    cases f with
    | next =>
      obtain ⟨σ3, H3, I3, n3⟩ := q3
      obtain ⟨m', hm, w3⟩ := hN σ3 H3 n3
      exact ⟨m', hm, σ3, H3, I3, w3⟩
    | cont =>
      obtain ⟨σ3, H3, I3, n3⟩ := q3
      obtain ⟨m', hm, w3⟩ := hN σ3 H3 n3
      exact ⟨m', hm, σ3, H3, I3, w3⟩
    | brk => exact q3
    | ret v => exact q3
  | false =>
    rw [if_neg Bool.false_ne_true]
    exact wpAny_execs_nil ⟨σ1, H2, I2, q2⟩
end

/-! ### what a loop or a comprehension walks -/
/-- at turn i: it yields x (the heap may grow), or it stops -/
structure It where
  go : Nat → Hp → Prop
  yld : Nat → Hp → V → Hp → Prop
  stop : Nat → Hp → Prop
/-- the iterator's own objects may turn: they are not the frame's, not pinned, younger than the entry (or a comprehension's own) -/
def FpOk (X : Cx) (pins : List (Addr × Obj)) (H : Hp) (b : Addr) : Prop :=
  H b = none ∧ b ≠ X.env.locals ∧ b ∉ X.fs ∧ (b ∈ X.ex ∨ X.s_0.heap.objs.size ≤ b) ∧ (∀ x c, X.env.cells.lookup x = some c → c ≠ b) ∧ ∀ p ∈ X.pn ++ pins, p.1 ≠ b
theorem Inv.fpOk {X : Cx} {pins : List (Addr × Obj)} {σ : St} {H H' : Hp} {s : Shared} {b : Addr} (I : Inv X pins σ H s) (hb : s.heap.objs.size ≤ b) (hn : H' b = none) : FpOk X pins H' b := by
  refine ⟨hn, Nat.ne_of_gt (Nat.lt_of_lt_of_le I.lt hb), I.nofs hb, .inr (Nat.le_trans I.sz hb), fun x c e z => ?_, fun p hp z => ?_⟩
  · obtain ⟨v, q⟩ := I.cell x c e
    exact absurd (Nat.lt_of_lt_of_le q.lt (by rw [z]; exact hb)) (Nat.lt_irrefl _)
  · exact absurd (Nat.lt_of_lt_of_le (Heap.lt_size (I.pin p hp).1) (by rw [z]; exact hb)) (Nat.lt_irrefl _)
structure Turn (P : Program) (w : World) (K : PySem.W.Frag) (tg : Expr) (J : It) (fp : List Addr) (it : Addr) (tn : Nat → Heap → Prop) : Prop where
  mem : it ∈ fp
  obj : ∀ i h, tn i h → ∀ b ∈ fp, ∃ o, h.get? b = some o ∧ ∀ v, o.data ≠ .cell v
  keep : ∀ i h h', tn i h → (∀ b ∈ fp, ∀ o, h.get? b = some o → h'.get? b = some o) → tn i h'
  item : ∀ (X : Cx), X.prog = P → X.w = w → X.K = K → X.calm = true → ∀ (i : Nat) (pins : List (Addr × Obj)) (s : Shared) (σ : St) (H : Hp) (E : Value → Shared → Prop), Inv X pins σ H s → (∀ b ∈ fp, FpOk X pins H b) → tn i s.heap → J.go i H →
    wpAny (model P w) X.A (pyNext (.ref it)) (fun r s1 => ∃ u, r = some u ∧
      wpAny (model P w) X.A (letOwnedTupleGo tg (.ref it) u) (fun _ s2 => ∃ x H', Inv X pins σ H' s2 ∧ RelV x u ∧ J.yld i H x H' ∧ tn (i + 1) s2.heap ∧ ∀ b ∈ fp, H' b = none) E s1) E s
  done : ∀ (X : Cx), X.prog = P → X.w = w → X.K = K → X.calm = true → ∀ (i : Nat) (pins : List (Addr × Obj)) (s : Shared) (σ : St) (H : Hp) (E : Value → Shared → Prop), Inv X pins σ H s → (∀ b ∈ fp, FpOk X pins H b) → tn i s.heap → J.stop i H →
    wpAny (model P w) X.A (pyNext (.ref it)) (fun r s1 => r = none ∧ Inv X pins σ H s1) E s
  self : ∀ (A : Around) (i : Nat) (s : Shared) (Q : Value → Shared → Prop) (E : Value → Shared → Prop), tn i s.heap → Q (.ref it) s → wpAny (model P w) A (pyIter (.ref it)) Q E s
abbrev TI := St → Hp → (It → Hp → Prop) → Prop
/-- an iterator has come -/
def PIE (X : Cx) (pins : List (Addr × Obj)) (σ : St) (tg : Expr) (R : It → Hp → Prop) (itv : Value) (s2 : Shared) : Prop :=
  ∃ (it : Addr) (fp : List Addr) (tn : Nat → Heap → Prop) (J : It) (H' : Hp), itv = .ref it ∧ Inv X pins σ H' s2 ∧ Turn X.prog X.w X.K tg J fp it tn ∧ tn 0 s2.heap ∧ (∀ b ∈ fp, FpOk X pins H' b) ∧ R J H'
def PI (X : Cx) (tg iter : Expr) (wi : TI) : Prop :=
  ∀ (pins : List (Addr × Obj)) (s : Shared) (σ : St) (H : Hp) (R : It → Hp → Prop), Inv X pins σ H s → wi σ H R →
    wpAny (model X.prog X.w) X.A (eval iter X.env) (fun v s1 => wpAny (model X.prog X.w) X.A (pyIter v) (PIE X pins σ tg R) X.xe s1) X.xe s

/-- the step ahead of the store is nothing for an iterator that keeps no tuple -/
theorem go_of {M : Model} {A : Around} {E : Value → Shared → Prop} {s : Shared} {tg : Expr} {it : Addr} {u : Value} {o : Obj} {n : String} {vs : Array Value} {Q : Unit → Shared → Prop} (ho : s.heap.get? it = some o) (hc : o.cls = .type n) (hd : o.data = .fields vs)
    (hn : ["enumerate", "zip", "dict_itemiterator", "dict_reverseitemiterator", "odict_iterator", "itertools.zip_longest", "itertools.pairwise"].contains n = false) (hQ : Q () s) : wpAny M A (letOwnedTupleGo tg (.ref it) u) Q E s := by
  unfold letOwnedTupleGo
  cases tg <;> first
    | exact wpAny_pure hQ
    | (cases u <;> first
        | exact wpAny_pure hQ
        | (refine wpAny_bind (wpAny_load ho ?_)
           rw [hc, hd]
           show wpAny M A (if (["enumerate", "zip", "dict_itemiterator", "dict_reverseitemiterator", "odict_iterator", "itertools.zip_longest", "itertools.pairwise"].contains n && vs[0]? == some (rawInt _)) = true then _ else _) Q E s
           rw [if_neg (by intro h; rw [hn, Bool.false_and] at h; cases h)]
           exact wpAny_pure hQ))

/-- the list at a, as it stands at each turn (a loop may append to it) -/
def Itl (K : PySem.W.Frag) (a : Addr) : It :=
  ⟨fun i H => ∃ xs x, SqL K H a xs ∧ xs[i]? = some x, fun i H x H' => H' = H ∧ ∀ xs, SqL K H a xs → xs[i]? = some x, fun i H => ∃ xs, SqL K H a xs ∧ xs.length ≤ i⟩
theorem turn_list {P : Program} {w : World} {K : PySem.W.Frag} {tg : Expr} (a it : Addr) : Turn P w K tg (Itl K a) [it] it (fun i h => h.IsListIter it a i) where
  mem := by simp
  obj := fun i h st b hb => by
    have e : b = it := by simpa using hb
    subst e
    obtain ⟨o, e, c, d⟩ := st
    exact ⟨o, e, fun v z => by rw [d] at z; cases z⟩
  keep := fun i h h' st k => st.at fun o e => k it (by simp) o e
  item := by
    intro X hP hw hK hc i pins s σ H E I hf st hg
    subst hP hw hK
    obtain ⟨xs, x, hq, hx⟩ := hg
    obtain ⟨its, rv, p, hz⟩ := I.list hq
    obtain ⟨u, hu, ru⟩ := rv.get hx
    obtain ⟨f0, f1, f2, f3, f4, f5⟩ := hf it (by simp)
    refine wpAny_pyNext_list_item st p.isList (x := u) (by simpa using hu) fun h' st' sb => ?_
    have I1 : Inv X pins σ H { s with heap := h' } := I.turned (t' := s.toks) (fun b o hb e => (sb.2 b hb).trans e) f0 f1 f3 f4 f5
    obtain ⟨o, e, c, d⟩ := id st'
    exact ⟨u, rfl, go_of (s := { s with heap := h' }) e c d (by decide) ⟨x, H, I1, ru, ⟨rfl, fun ys hy => by rw [I.list_inj hy hq]; exact hx⟩, st', fun b hb => (hf b hb).1⟩⟩
  done := by
    intro X hP hw hK hc i pins s σ H E I hf st hg
    subst hP hw hK
    obtain ⟨xs, hq, hx⟩ := hg
    obtain ⟨its, rv, p, hz⟩ := I.list hq
    obtain ⟨f0, f1, f2, f3, f4, f5⟩ := hf it (by simp)
    have hl := rv.length
    exact wpAny_pyNext_list_end (I.ok.hd hc) st p.isList (by simp; omega) fun h' eb => ⟨rfl, I.turned (t' := s.toks) (fun b o hb e => eb b o hb e) f0 f1 f3 f4 f5⟩
  self := fun _ _ _ _ _ st h => wpAny_pyIter_listiter st h
end L2

namespace L2
open PySem PySem.Spec PyProof.Rows
section
variable {X : Cx} {tg : Expr}
def iList (K : PySem.W.Frag) (tl : TE) : TI := fun σ H R => tl σ H fun x H1 => ∃ a, x = .ref a ∧ (∃ xs, SqL K H1 a xs) ∧ R (Itl K a) H1
theorem pi_list {l : Expr} {tl : TE} (hl : PE X l tl) : PI X tg l (iList X.K tl) := by
  intro pins s σ H R I h
  refine thn (hl pins s σ H _ I h) fun v s1 ⟨x, H1, I1, r1, q1⟩ => ?_
  obtain ⟨a, e, ⟨xs, hq⟩, q⟩ := q1
  subst e
  cases r1
  obtain ⟨its, rv, p, hz⟩ := I1.list hq
  refine wpAny_pyIter_list p.isList ?_
  refine ⟨s1.heap.objs.size, [s1.heap.objs.size], _, _, H1, rfl, I1.kept (t' := s1.toks) fun b o e => Heap.get?_push_of_some _ e, turn_list a _, ⟨_, Heap.get?_push_size _ rfl, rfl, rfl⟩, fun b hb => ?_, q⟩
  have e : b = s1.heap.objs.size := by simpa using hb
  subst e
  exact I1.fpOk (Nat.le_refl _) (I1.hok.fresh (Nat.le_refl _))

/-! ### for -/
/-- W: the invariant by the turn and a measure; N: what the body is to reach -/
def tFor (wi : TI) (g : TG) (tb : TS) : TS := fun D σ H => wi σ H fun J H1 => ∃ W : Nat → Nat → St → Hp → Prop, (∃ m, W 0 m σ H1) ∧ ∀ i m σ H, W i m σ H →
  (J.stop i H ∧ D.nx σ H) ∨ (J.go i H ∧ ∃ N : St → Hp → Prop, (∀ σ' H', N σ' H' → ∃ m', m' < m ∧ W (i + 1) m' σ' H') ∧ ∀ x H', J.yld i H x H' → g x σ H' fun σ2 H2 => tb { D with nx := N, ct := N, bk := D.nx } σ2 H2)
/-- the records at fp as they stand -/
def pinsAt (fp : List Addr) (h : Heap) : List (Addr × Obj) := fp.filterMap fun b => (h.get? b).map fun o => (b, o)
theorem mem_pinsAt {fp : List Addr} {h : Heap} {b : Addr} {o : Obj} (hb : b ∈ fp) (e : h.get? b = some o) : (b, o) ∈ pinsAt fp h := List.mem_filterMap.mpr ⟨b, hb, by rw [e]; rfl⟩
theorem of_pinsAt {fp : List Addr} {h : Heap} {p : Addr × Obj} (hp : p ∈ pinsAt fp h) : p.1 ∈ fp ∧ h.get? p.1 = some p.2 := by
  obtain ⟨b, hb, e⟩ := List.mem_filterMap.mp hp
  cases q : h.get? b with
  | none => rw [q] at e; cases e
  | some o =>
    rw [q] at e
    have e' : (b, o) = p := Option.some.inj e
    subst e'
    exact ⟨hb, q⟩
theorem Inv.pinned {pins : List (Addr × Obj)} {σ : St} {H : Hp} {s : Shared} {fp : List Addr} (I : Inv X pins σ H s) (hf : ∀ b ∈ fp, FpOk X pins H b) (ho : ∀ b ∈ fp, ∃ o, s.heap.get? b = some o ∧ ∀ v, o.data ≠ .cell v) : Inv X (pins ++ pinsAt fp s.heap) σ H s :=
  I.pins_of fun p hp => (List.mem_append.mp hp).elim (fun z => I.pin p (List.mem_append_right _ z)) fun z => by
    obtain ⟨hb, e⟩ := of_pinsAt z
    obtain ⟨f0, f1, f2, _⟩ := hf p.1 hb
    obtain ⟨o, e', d⟩ := ho p.1 hb
    rw [e] at e'; cases e'
    exact ⟨e, f0, f1, f2, d⟩
theorem Inv.unpinned {pins pl : List (Addr × Obj)} {σ : St} {H : Hp} {s : Shared} (I : Inv X (pins ++ pl) σ H s) : Inv X pins σ H s := I.pins_of fun p hp => I.pin p (List.mem_append_right _ (List.mem_append_left _ hp))
theorem ps_for {iter : Expr} {body : List Stmt} {wi : TI} {g : TG} {tb : TS} {pos : Pos} (hp : PassesOwn (model X.prog X.w) X.A X.env X.xe) (hc : X.calm = true) (hi : PI X tg iter wi) (hg : PG X tg g) (hb : PSs X body tb)
    (hs : ∀ x, foldedSetIterable iter X.env x = pure x := by intro _; rfl) : PS X (.For tg iter body [] pos) (tFor wi g tb) := by
  intro pins s σ H D I h
  refine wpAny_For (thn (hi pins s σ H _ I h) fun v s1 h1 => thn h1 fun itv s2 h2 => ?_) hs
  obtain ⟨it, fp, tn, J, H2, e, I2, T, st2, f2, W, ⟨m0, w0⟩, turn⟩ := h2
  subst e
  -- what stays true of the iterator's objects through the loop
  have stat : ∀ {H' : Hp}, (∀ b ∈ fp, H' b = none) → ∀ b ∈ fp, FpOk X pins H' b := fun hn b hb => ⟨hn b hb, (f2 b hb).2⟩
  refine codeAny_forLoop_any (fun n s' => ∃ i σ' H', Inv X pins σ' H' s' ∧ tn i s'.heap ∧ (∀ b ∈ fp, H' b = none) ∧ W i n σ' H') ?_ m0 ⟨0, σ, H2, I2, st2, fun b hb => (f2 b hb).1, w0⟩
  rintro n s3 ⟨i, σ3, H3, I3, st3, fr3, w3⟩
  rcases turn i n σ3 H3 w3 with ⟨stop, qn⟩ | ⟨go, N, hN, step⟩
  · refine wpAny_passesOwn hp (thn (T.done X rfl rfl rfl hc i pins s3 σ3 H3 X.xe I3 (stat fr3) st3 stop) fun r s4 ⟨hr, I4⟩ => ?_)
    subst hr
    exact wpAny_execs_nil ⟨σ3, H3, I4, qn⟩
  · refine wpAny_passesOwn hp (thn (T.item X rfl rfl rfl hc i pins s3 σ3 H3 X.xe I3 (stat fr3) st3 go) fun r s4 ⟨u, hr, h4⟩ => ?_)
    subst hr
    refine wpAny_passesOwn hp (thn h4 fun _ s5 ⟨x, H5, I5, r5, y5, st5, fr5⟩ => ?_)
    have I5' := I5.pinned (stat fr5) (T.obj _ _ st5)
    refine wpAny_passesOwn hp (thn (hg _ s5 σ3 H5 x u _ I5' r5 (step x H5 y5)) fun _ s6 ⟨σ6, H6, I6, q6⟩ => ?_)
    refine wpAny_passesOwn hp (thn (hb _ s6 σ6 H6 _ I6 q6) fun f s7 q7 => ?_)
    have again : ∀ {σ7 : St} {H7 : Hp}, Inv X (pins ++ pinsAt fp s5.heap) σ7 H7 s7 → N σ7 H7 → ∃ m, m < n ∧ ∃ i σ' H', Inv X pins σ' H' s7 ∧ tn i s7.heap ∧ (∀ b ∈ fp, H' b = none) ∧ W i m σ' H' := fun {σ7 H7} I7 n7 => by
      obtain ⟨m', hm, w7⟩ := hN σ7 H7 n7
      refine ⟨m', hm, i + 1, σ7, H7, I7.unpinned, T.keep _ _ _ st5 fun b hb o e => (I7.pin (b, o) (List.mem_append_right _ (List.mem_append_right _ (mem_pinsAt hb e)))).1, fun b hb => ?_, w7⟩
      obtain ⟨o, e, d⟩ := T.obj _ _ st5 b hb
      exact (I7.pin (b, o) (List.mem_append_right _ (List.mem_append_right _ (mem_pinsAt hb e)))).2.1
    cases f with
    | next => obtain ⟨σ7, H7, I7, n7⟩ := q7; exact again I7 n7
    | cont => obtain ⟨σ7, H7, I7, n7⟩ := q7; exact again I7 n7
    | brk => obtain ⟨σ7, H7, I7, q7⟩ := q7; exact ⟨σ7, H7, I7.unpinned, q7⟩
    | ret v => obtain ⟨x7, σ7, H7, I7, r7, q7⟩ := q7; exact ⟨x7, σ7, H7, I7.unpinned, r7, q7⟩
end

/-! ### the forms one uses -/
/-- over a list that the body leaves as it is -/
theorem for_list {K : PySem.W.Frag} {a : Addr} {xs : List V} {g : TG} {tb : TS} {D : Ends} {σ : St} {H : Hp} (Pv : Nat → St → Hp → Prop) (h0 : Pv 0 σ H) (hl : ∀ i σ H, i ≤ xs.length → Pv i σ H → SqL K H a xs)
    (hs : ∀ i x σ H, xs[i]? = some x → Pv i σ H → g x σ H fun σ2 H2 => tb { D with nx := Pv (i + 1), ct := Pv (i + 1), bk := D.nx } σ2 H2) (hd : ∀ σ H, Pv xs.length σ H → D.nx σ H) :
    ∃ W : Nat → Nat → St → Hp → Prop, (∃ m, W 0 m σ H) ∧ ∀ i m σ H, W i m σ H →
      ((Itl K a).stop i H ∧ D.nx σ H) ∨ ((Itl K a).go i H ∧ ∃ N : St → Hp → Prop, (∀ σ' H', N σ' H' → ∃ m', m' < m ∧ W (i + 1) m' σ' H') ∧ ∀ x H', (Itl K a).yld i H x H' → g x σ H' fun σ2 H2 => tb { D with nx := N, ct := N, bk := D.nx } σ2 H2) := by
  refine ⟨fun i m σ H => m = xs.length - i ∧ i ≤ xs.length ∧ Pv i σ H, ⟨xs.length, by simp, Nat.zero_le _, h0⟩, ?_⟩
  rintro i m σ H ⟨rfl, hi, p⟩
  have q := hl i σ H hi p
  by_cases hlt : i < xs.length
  · refine .inr ⟨⟨xs, xs[i], q, by simp [hlt]⟩, Pv (i + 1), fun σ' H' p' => ⟨xs.length - (i + 1), by omega, rfl, hlt, p'⟩, fun x H' y => ?_⟩
    obtain ⟨e, y⟩ := y
    subst e
    exact hs i x σ _ (y xs q) p
  · have e : i = xs.length := by omega
    subst e
    exact .inl ⟨⟨xs, q, Nat.le_refl _⟩, hd σ H p⟩
end L2

namespace L2
open PySem PySem.Spec PyProof.Rows

abbrev R2 := V → V → Hp → VK → Prop
/-- a two-place operation on values: f is binaryOp op, inplaceOp op or compareOp op -/
def OpR (X : Cx) (f : Value → Value → Sem Value) (r : R2) : Prop :=
  ∀ (pins : List (Addr × Obj)) (s : Shared) (σ : St) (H : Hp) (x y : V) (v u : Value) (Q : VK), Inv X pins σ H s → RelV x v → RelV y u → r x y H Q →
    wpAny (model X.prog X.w) X.A (f v u) (EP X pins σ Q) X.xe s
/-- a one-place operation -/
def UnR (X : Cx) (f : Value → Sem Value) (r : V → Hp → VK → Prop) : Prop :=
  ∀ (pins : List (Addr × Obj)) (s : Shared) (σ : St) (H : Hp) (x : V) (v : Value) (Q : VK), Inv X pins σ H s → RelV x v → r x H Q →
    wpAny (model X.prog X.w) X.A (f v) (EP X pins σ Q) X.xe s
/-- a call of a value that is known (a builtin, a type) with values -/
def CallR (X : Cx) (f : Value) (r : List V → Hp → VK → Prop) : Prop :=
  ∀ (pins : List (Addr × Obj)) (s : Shared) (σ : St) (H : Hp) (xs : List V) (us : List Value) (Q : VK), Inv X pins σ H s → Vals xs us → r xs H Q →
    wpAny (model X.prog X.w) X.A (call f us) (EP X pins σ Q) X.xe s

def tOp (r : R2) (ta tb : TE) : TE := fun σ H Q => ta σ H fun x H1 => tb σ H1 fun y H2 => r x y H2 Q
def tUn (r : V → Hp → VK → Prop) (ta : TE) : TE := fun σ H Q => ta σ H fun x H1 => r x H1 Q
/-- ints in, under C, and a value out -/
def rI (C : Int → Int → Prop) (g : Int → Int → V) : R2 := fun x y H Q => ∃ i j, x = .int i ∧ y = .int j ∧ C i j ∧ Q (g i j) H
def rI0 (g : Int → Int → V) : R2 := fun x y H Q => ∃ i j, x = .int i ∧ y = .int j ∧ Q (g i j) H
def rU (g : Int → V) : V → Hp → VK → Prop := fun x H Q => ∃ i, x = .int i ∧ Q (g i) H

section
variable {X : Cx} {a b c : Expr} {ta tb tc : TE} {pos : Pos}

theorem binT (ha : PE X a ta) (hb : PE X b tb) {pins : List (Addr × Obj)} {s : Shared} {σ : St} {H : Hp} {R : V → V → Hp → Prop} (I : Inv X pins σ H s)
    (h : ta σ H fun x H1 => tb σ H1 fun y H2 => R x y H2) {Q : Value → Shared → Prop} {f : Value → Value → Sem Value}
    (hf : ∀ v u s2 x y H2, Inv X pins σ H2 s2 → RelV x v → RelV y u → R x y H2 → wpAny (model X.prog X.w) X.A (f v u) Q X.xe s2) :
    wpAny (model X.prog X.w) X.A (eval a X.env) (fun v s₁ => wpAny (model X.prog X.w) X.A (eval b X.env) (fun u s₂ => wpAny (model X.prog X.w) X.A (f v u) Q X.xe s₂) X.xe s₁) X.xe s := by
  refine thn (ha pins s σ H _ I h) fun v s1 ⟨x, H1, I1, r1, q1⟩ => ?_
  refine thn (hb pins s1 σ H1 _ I1 q1) fun u s2 ⟨y, H2, I2, r2, q2⟩ => ?_
  exact hf v u s2 x y H2 I2 r1 r2 q2

theorem pe_op {op : Operator} {r : R2} (ho : OpR X (binaryOp op) r) (ha : PE X a ta) (hb : PE X b tb) : PE X (.BinOp a op b pos) (tOp r ta tb) := by
  intro pins s σ H Q I h
  exact wpAny_BinOp (binT ha hb I h fun v u s2 x y H2 I2 rx ry q => ho pins s2 σ H2 x y v u Q I2 rx ry q)
theorem pe_un {op : UnaryOp} {r : V → Hp → VK → Prop} (ho : UnR X (unaryOp op) r) (ha : PE X a ta) : PE X (.UnaryOp op a pos) (tUn r ta) := by
  intro pins s σ H Q I h
  exact UnaryOp_ (thn (ha pins s σ H _ I h) fun v s1 ⟨x, H1, I1, r1, q1⟩ => ho pins s1 σ H1 x v Q I1 r1 q1)

/-! ### ints -/
theorem opI {f : Value → Value → Sem Value} {C : Int → Int → Prop} {g : Int → Int → Int}
    (rule : ∀ (i j : Int) (t u : Tok) (s : Shared) (Q : Value → Shared → Prop) (E : Value → Shared → Prop), C i j → Q (.int (g i j) s.toks) { s with toks := s.toks + 1 } → wpAny (model X.prog X.w) X.A (f (.int i t) (.int j u)) Q E s) :
    OpR X f (rI C fun i j => .int (g i j)) := by
  intro pins s σ H x y v u Q I rx ry h
  obtain ⟨i, j, rfl, rfl, hc, q⟩ := h
  obtain ⟨t, rfl⟩ := rx
  obtain ⟨t', rfl⟩ := ry
  exact rule i j t t' s _ _ hc ⟨.int (g i j), H, I.tok _, ⟨_, rfl⟩, q⟩
theorem opI0 {f : Value → Value → Sem Value} {g : Int → Int → Int}
    (rule : ∀ (i j : Int) (t u : Tok) (s : Shared) (Q : Value → Shared → Prop) (E : Value → Shared → Prop), Q (.int (g i j) s.toks) { s with toks := s.toks + 1 } → wpAny (model X.prog X.w) X.A (f (.int i t) (.int j u)) Q E s) :
    OpR X f (rI0 fun i j => .int (g i j)) := by
  intro pins s σ H x y v u Q I rx ry h
  obtain ⟨i, j, rfl, rfl, q⟩ := h
  obtain ⟨t, rfl⟩ := rx
  obtain ⟨t', rfl⟩ := ry
  exact rule i j t t' s _ _ ⟨.int (g i j), H, I.tok _, ⟨_, rfl⟩, q⟩
theorem opB0 {f : Value → Value → Sem Value} {g : Int → Int → Bool}
    (rule : ∀ (i j : Int) (t u : Tok) (s : Shared) (Q : Value → Shared → Prop) (E : Value → Shared → Prop), Q (.bool (g i j)) s → wpAny (model X.prog X.w) X.A (f (.int i t) (.int j u)) Q E s) :
    OpR X f (rI0 fun i j => .bl (g i j)) := by
  intro pins s σ H x y v u Q I rx ry h
  obtain ⟨i, j, rfl, rfl, q⟩ := h
  obtain ⟨t, rfl⟩ := rx
  obtain ⟨t', rfl⟩ := ry
  exact rule i j t t' s _ _ ⟨.bl (g i j), H, I, rfl, q⟩

def CPow (i j : Int) : Prop := 0 ≤ j ∧ j ≤ 1000000 ∧ i.natAbs < 2 ^ 64
def CMul (i j : Int) : Prop := (-(2 ^ 64) < i ∧ i < 2 ^ 64) ∨ (-(2 ^ 64) < j ∧ j < 2 ^ 64)
theorem CMul.ok {i j : Int} (h : CMul i j) : IntMulOk i j := by
  rcases h with ⟨h1, h2⟩ | ⟨h1, h2⟩
  · exact .of_left (intBits_le_64 h1 h2)
  · exact .of_right (intBits_le_64 h1 h2)
theorem two_pow_nn (k : Nat) : (0 : Int) ≤ 2 ^ k := by
  rw [two_pow_cast]
  exact Int.natCast_nonneg _

theorem op_add : OpR X (binaryOp .Add) (rI0 fun i j => .int (i + j)) := opI0 fun _ _ _ _ _ _ _ q => add_int q
theorem op_sub : OpR X (binaryOp .Sub) (rI0 fun i j => .int (i - j)) := opI0 fun _ _ _ _ _ _ _ q => sub_int q
theorem op_mul : OpR X (binaryOp .Mult) (rI CMul fun i j => .int (i * j)) := opI fun _ _ _ _ _ _ _ hc q => mul_int q hc.ok
/-- % by a positive divisor of any size -/
theorem op_mod : OpR X (binaryOp .Mod) (rI (fun _ j => 0 < j) fun i j => .int (i % j)) := opI fun i j _ _ _ _ _ hc q => by
  have h1 : (0 : Int) < j := hc
  exact mod_int' (by omega) (by rw [Int.fmod_eq_emod_of_nonneg i (by omega)]; exact q)
theorem op_shl : OpR X (binaryOp .LShift) (rI CPow fun i j => .int (i * 2 ^ j.toNat)) := opI fun _ _ _ _ _ _ _ hc q => lshift_int_small hc.1 hc.2.1 hc.2.2 q
theorem op_shr : OpR X (binaryOp .RShift) (rI (fun _ j => 0 ≤ j) fun i j => .int (i / 2 ^ j.toNat)) := opI fun i j _ _ _ _ _ hc q =>
  rshift_int hc (by rw [Int.fdiv_eq_ediv_of_nonneg i (two_pow_nn _)]; exact q)
theorem op_and : OpR X (binaryOp .BitAnd) (rI0 fun i j => .int (Builtin.bitAnd i j)) := opI0 fun _ _ _ _ _ _ _ q => and_int q
theorem op_or : OpR X (binaryOp .BitOr) (rI0 fun i j => .int (Builtin.bitOr i j)) := opI0 fun _ _ _ _ _ _ _ q => or_int q
theorem op_xor : OpR X (binaryOp .BitXor) (rI0 fun i j => .int (Builtin.bitXor i j)) := opI0 fun _ _ _ _ _ _ _ q => xor_int q


theorem unI {f : Value → Sem Value} {g : Int → Int}
    (rule : ∀ (i : Int) (t : Tok) (s : Shared) (Q : Value → Shared → Prop) (E : Value → Shared → Prop), Q (.int (g i) s.toks) { s with toks := s.toks + 1 } → wpAny (model X.prog X.w) X.A (f (.int i t)) Q E s) :
    UnR X f (rU fun i => .int (g i)) := by
  intro pins s σ H x v Q I rx h
  obtain ⟨i, rfl, q⟩ := h
  obtain ⟨t, rfl⟩ := rx
  exact rule i t s _ _ ⟨.int (g i), H, I.tok _, ⟨_, rfl⟩, q⟩
theorem un_neg : UnR X (unaryOp .USub) (rU fun i => .int (-i)) := unI fun _ _ _ _ _ q => neg_int q

/-! ### bools among ints: n += (a < b) -/
end

/-! ### comparisons -/
/-- the scalars that == tells apart as data does -/
def scal : V → V → Bool
  | .non, .non => true | .non, .int _ => true | .int _, .non => true | .non, .bl _ => true | .bl _, .non => true | .non, .str _ => true | .str _, .non => true
  | .int _, .int _ => true | .bl _, .bl _ => true | .str _, .str _ => true | .byt _, .byt _ => true
  | .int _, .str _ => true | .str _, .int _ => true | .bl _, .str _ => true | .str _, .bl _ => true
  | _, _ => false
def rEq : R2 := fun x y H Q => scal x y = true ∧ Q (.bl (decide (x = y))) H

theorem dec_int {i j : Int} : decide (V.int i = V.int j) = (i == j) := by
  rw [Bool.eq_iff_iff]
  simp
theorem dec_bl {i j : Bool} : decide (V.bl i = V.bl j) = (i == j) := by
  rw [Bool.eq_iff_iff]
  simp
theorem dec_str {i j : Str} : decide (V.str i = V.str j) = (i == j) := by
  rw [Bool.eq_iff_iff]
  simp
theorem dec_byt {i j : Array UInt8} : decide (V.byt i = V.byt j) = (i.toList == j.toList) := by
  rw [Bool.eq_iff_iff]
  cases i
  cases j
  simp

section
variable {X : Cx} {a b c : Expr} {ta tb tc : TE} {pos : Pos}
theorem fin_bl {pins : List (Addr × Obj)} {σ : St} {H : Hp} {s : Shared} {Q : VK} {k k' : Bool} (I : Inv X pins σ H s) (q : Q (.bl k) H) (e : k = k') : EP X pins σ Q (.bool k') s := by
  subst e
  exact ⟨.bl k, H, I, rfl, q⟩
theorem op_eq : OpR X (compareOp .Eq) rEq := by
  intro pins s σ H x y v u Q I rx ry h
  obtain ⟨hs, q⟩ := h
  cases x with
  | non =>
    cases rx
    cases y with
    | non => cases ry; exact PySem.EqNone.eq_none_none (fin_bl I q (by simp))
    | bl j => cases ry; exact PySem.EqNone.eq_none_bool (fin_bl I q (by simp))
    | int j => obtain ⟨t', rfl⟩ := ry; exact PySem.EqNone.eq_none_int (fin_bl I q (by simp))
    | str j => obtain ⟨t', rfl⟩ := ry; exact PySem.EqNone.eq_none_str (fin_bl I q (by simp))
    | _ => exact absurd (show false = true from hs) Bool.false_ne_true
  | bl i =>
    cases rx
    cases y with
    | non => cases ry; exact PySem.EqNone.eq_bool_none (fin_bl I q (by simp))
    | bl j => cases ry; exact eq_bool (fin_bl I q dec_bl)
    | str j => obtain ⟨t', rfl⟩ := ry; exact PySem.EqMixed.eq_bool_str (fin_bl I q (by simp))
    | _ => exact absurd (show false = true from hs) Bool.false_ne_true
  | int i =>
    obtain ⟨t, rfl⟩ := rx
    cases y with
    | non => cases ry; exact PySem.EqNone.eq_int_none (fin_bl I q (by simp))
    | int j => obtain ⟨t', rfl⟩ := ry; exact eq_int (fin_bl I q dec_int)
    | str j => obtain ⟨t', rfl⟩ := ry; exact PySem.EqMixed.eq_int_str (fin_bl I q (by simp))
    | _ => exact absurd (show false = true from hs) Bool.false_ne_true
  | str i =>
    obtain ⟨t, rfl⟩ := rx
    cases y with
    | non => cases ry; exact PySem.EqNone.eq_str_none (fin_bl I q (by simp))
    | bl j => cases ry; exact PySem.EqMixed.eq_str_bool (fin_bl I q (by simp))
    | int j => obtain ⟨t', rfl⟩ := ry; exact PySem.EqMixed.eq_str_int (fin_bl I q (by simp))
    | str j => obtain ⟨t', rfl⟩ := ry; exact eq_str (fin_bl I q dec_str)
    | _ => exact absurd (show false = true from hs) Bool.false_ne_true
  | byt i =>
    obtain ⟨t, rfl⟩ := rx
    cases y with
    | byt j => obtain ⟨t', rfl⟩ := ry; exact PySem.W.eq_bytes (fin_bl I q dec_byt)
    | _ => exact absurd (show false = true from hs) Bool.false_ne_true
  | _ => cases y <;> exact absurd (show false = true from hs) Bool.false_ne_true

theorem op_lt : OpR X (compareOp .Lt) (rI0 fun i j => .bl (decide (i < j))) := opB0 fun _ _ _ _ _ _ _ q => lt_int q
theorem op_le : OpR X (compareOp .LtE) (rI0 fun i j => .bl (decide (i ≤ j))) := opB0 fun _ _ _ _ _ _ _ q => le_int q
theorem op_gt : OpR X (compareOp .Gt) (rI0 fun i j => .bl (decide (j < i))) := opB0 fun _ _ _ _ _ _ _ q => gt_int q
theorem op_ge : OpR X (compareOp .GtE) (rI0 fun i j => .bl (decide (j ≤ i))) := opB0 fun _ _ _ _ _ _ _ q => ge_int q




theorem nomark (b : Expr) {op : CmpOp} (h : op ≠ .In := by decide) (h2 : op ≠ .NotIn := by decide) : behindInMarks op b = false := by
  have e1 : (op == CmpOp.In) = false := by cases op <;> first | rfl | exact absurd rfl h
  have e2 : (op == CmpOp.NotIn) = false := by cases op <;> first | rfl | exact absurd rfl h2
  cases b <;> simp [behindInMarks, e1, e2]
/-- a comparison as a value; hm: nomark b, or (for in, not in) by with_unfolding_all rfl -/
theorem pe_cmpR {op : CmpOp} {r : R2} (ho : OpR X (compareOp op) r) (ha : PE X a ta) (hb : PE X b tb) (hm : behindInMarks op b = false) : PE X (.Compare a [op] [b] pos) (tOp r ta tb) := by
  intro pins s σ H Q I h
  exact wpAny_Compare1 (binT ha hb I h fun v u s2 x y H2 I2 rx ry q => ho pins s2 σ H2 x y v u Q I2 rx ry q) hm
/-- a reading of a value as a test -/
def tTest (t : TE) : TT := fun σ H Q => t σ H fun x H' => ∃ k, x = .bl k ∧ Q k H'
theorem pt_cmpR {op : CmpOp} {r : R2} (ho : OpR X (compareOp op) r) (ha : PE X a ta) (hb : PE X b tb) (hm : behindInMarks op b = false) : PT X (.Compare a [op] [b] pos) (tTest (tOp r ta tb)) := by
  intro pins s σ H Q I h
  refine wpAny_isTrue_Compare1 (thn (ha pins s σ H _ I h) fun v s1 ⟨x, H1, I1, r1, q1⟩ => thn (hb pins s1 σ H1 _ I1 q1) fun u s2 ⟨y, H2, I2, r2, q2⟩ =>
    thn (ho pins s2 σ H2 x y v u _ I2 r1 r2 q2) fun c s3 ⟨z, H3, I3, r3, k, e, q3⟩ => ?_) hm
  subst e
  cases r3
  exact wpAny_truthy_bool ⟨H3, I3, q3⟩

/-! ### truth -/
theorem line63 : (sizeLine : Nat) < 2 ^ 63 := by rw [sizeLine_eq]; decide

/-! ### strs and bytes -/


/-! ### scalar builtins, by CallR -/
theorem vals1 {x : V} {us : List Value} (r : Vals [x] us) : ∃ u, us = [u] ∧ RelV x u := by
  cases r with
  | cons r1 r2 => cases r2; exact ⟨_, rfl, r1⟩
end
end L2

namespace L2
open PySem PySem.Spec PyProof.Rows

/-! ### an instance, its attributes a map -/
structure ObjM (h : Heap) (x dx C : Addr) (mA : Str → Option Value) : Prop where
  obj : h.get? x = some (PySem.W.instObj C dx)
  ns : h.Ns1 dx mA
  ne : dx ≠ x

theorem lookIn_ns {h : Heap} {dx : Addr} {mA : Str → Option Value} (n : h.Ns1 dx mA) : ∃ od, h.get? dx = some od ∧ ∀ name, PySem.W.lookIn name od = some (mA name) := by
  obtain ⟨o, es, ep, ho, hd, hk, _, hm⟩ := n
  refine ⟨o, ho, fun name => ?_⟩
  have e := hm name
  unfold nsFind findBy at e
  rw [← Array.find?_toList] at e
  unfold PySem.W.lookIn
  rw [hd]
  dsimp only
  split
  · rename_i y q
    rw [q] at e
    exact congrArg some e
  · rename_i q
    rw [q] at e
    have a : es.toList.any (·.refKey) = false := by
      rw [List.any_eq_false]
      intro y hy
      obtain ⟨z, t, hkey⟩ := hk y (Array.mem_toList_iff.mp hy)
      simp [DictEntry.refKey, hkey]
    have a' : ¬ es.toList.any (·.refKey) = true := by rw [a]; exact Bool.false_ne_true
    rw [if_neg a']
    exact congrArg some e

theorem ObjM.look {h : Heap} {x dx C : Addr} {mA : Str → Option Value} (I : ObjM h x dx C mA) : ∃ od, PySem.W.InstAt h x (PySem.W.instObj C dx) C (some od) ∧ ∀ name, PySem.W.lookIn name od = some (mA name) :=
  let ⟨od, ho, hl⟩ := lookIn_ns I.ns
  ⟨od, ⟨I.obj, rfl, rfl, ho⟩, hl⟩

section
variable {prog : Program} {w : World} {A : Around} {E : Value → Shared → Prop} {s : Shared} {K : PySem.W.Frag} {x dx C f : Addr} {mA : Str → Option Value} {name : Str} {v : Value}

theorem get_map {expr : Bool} {Q : Value → Shared → Prop} (X : K.In s.heap) (I : ObjM s.heap x dx C mA) (hg : PySem.W.plainGet K C name = true) (hh : PySem.W.hasDictIn K C = true)
    (ha : PySem.W.findIn K (.ref C) name = some none) (hv : mA name = some v) (hv' : PySem.W.handedIn v = true) (h : Q v { s with toks := s.toks + 1 }) :
    wpAny (model prog w) A (getAttr (.ref x) name expr) Q E s := by
  obtain ⟨od, J, hl⟩ := I.look
  exact PySem.W.get_value X J (PySem.W.plainGet_of hg).1 (PySem.W.findObj_own hh ha rfl (by rw [hl, hv])) hv' h


theorem get_meth {pl : Sem Bool} {Q : Value × List Value → Shared → Prop} (X : K.In s.heap) (I : ObjM s.heap x dx C mA) (hg : PySem.W.plainGet K C name = true)
    (hf : PySem.W.findIn K (.ref C) name = some (some (.ref f))) (ht : PySem.W.isFn K (.ref f) = true) (hv : mA name = none) (h : Q (.ref f, [.ref x]) s) :
    wpAny (model prog w) A (getMethod (.ref x) name pl) Q E s := by
  obtain ⟨od, J, hl⟩ := I.look
  exact PySem.W.method_fn X J (PySem.W.plainGet_of hg).1 (PySem.W.plainGet_of hg).2 hf (beq_iff_eq.mp ht) (by show (PySem.W.lookIn name od).map (·.isSome) = some false; rw [hl, hv]; rfl) h

theorem set_map {ns : List Str} {Q : Unit → Shared → Prop} (X : K.In s.heap) (I : ObjM s.heap x dx C mA)
    (hs : PySem.W.findIn K (.ref C) "__setattr__" = some (some (.builtin "object.__setattr__"))) (hp : PySem.W.plainOver K C = true) (ht : PySem.W.takerIn K C name = some none) (hh : PySem.W.hasDictIn K C = true)
    (hw : PySem.Within mA ns) (hsz : ns.length ≤ sizeLine)
    (h : ∀ h', ObjM h' x dx C (fun y => if y = name then some v else mA y) → Heap.SameBut dx s.heap h' → Q () { s with heap := h', toks := s.toks + 2 }) :
    wpAny (model prog w) A (setAttr (.ref x) name v) Q E s := by
  obtain ⟨od, J, hl⟩ := I.look
  refine PySem.W.set_plain X J hs (PySem.W.osa_open (s := { s with toks := s.toks + 1 }) (r := none) X J hp ht fun b => ?_)
  obtain ⟨cd, hc, hd'⟩ := PySem.W.any_some hh
  have hx : s.heap.get? x = some ⟨.ref C, some dx, .plain, #[]⟩ := I.obj
  refine wpAny_bind (wpAny_pure (wpAny_bind (wpAny_bind (wpAny_loadPart hx (wpAny_bind (PySem.W.Looks.here (s := { s with toks := s.toks + 1 }) (PySem.W.looks_clsIn X hc) ?_))))))
  rw [hd']
  refine wpAny_pure (a := some dx) (wpAny_bind (wpAny_pure (wpAny_bind ?_)))
  refine wpAny_nsSet1 (s := { s with toks := s.toks + 1 }) I.ns fun h' hn2 hs2 => ?_
  obtain ⟨oD, esD, epD, hoD, hdD, hcD⟩ := hn2.count (PySem.Within.cons name v hw)
  refine wpAny_bind (wpAny_lookBehind hoD (by rw [hdD]; exact pastItsLine_dict (Nat.le_trans hcD (by rw [List.length_cons]; omega))) ?_)
  exact wpAny_pure (h _ ⟨(hs2.2 _ (Ne.symm I.ne)).trans I.obj, hn2, I.ne⟩ hs2)

/-- C(..): the dict at the heap's end, the instance behind it; then its __init__ -/
theorem make_map {R : Result → Shared → Prop} {vs : List Value} {kw : List (Str × Value)} (X : K.In s.heap) (hm : PySem.W.makesIn K C = true)
    (hi : PySem.W.findIn K (.ref C) "__init__" = some (some (.ref f))) (hf : PySem.W.typeIn K (.ref f) = some (.type "function"))
    (h : codeAny (model prog w) (A.under (.builtin "type.__call__" ⟨.ref C :: vs, kw⟩)) (.call (.ref f) ⟨.ref (s.heap.objs.size + 1) :: vs, kw⟩) (PySem.W.InitBack (s.heap.objs.size + 1) R)
      { s with heap := (s.heap.push PySem.W.emptyDict).push (PySem.W.instObj C s.heap.objs.size) }) :
    codeAny (model prog w) A (.call (.ref C) ⟨vs, kw⟩) R s := by
  obtain ⟨hh, g, d, t, os⟩ := s
  exact PySem.W.make_core (PySem.W.makes_of X hm) (PySem.W.looks_findIn X hi) (fun self => PySem.W.bind_fn X self hf) (.inl rfl) h
end

/-! ### the attributes as a list of pairs -/
def putF (f : Str) (v : V) : List (Str × V) → List (Str × V)
  | [] => [(f, v)]
  | (g, x) :: r => if g = f then (g, v) :: r else (g, x) :: putF f v r
theorem lookup_putF (f g : Str) (v : V) : ∀ fs : List (Str × V), (putF f v fs).lookup g = if g = f then some v else fs.lookup g
  | [] => by
    show List.lookup g [(f, v)] = _
    by_cases h : g = f
    · have hb : (g == f) = true := beq_iff_eq.mpr h
      simp only [List.lookup, hb, if_pos h]
    · have hb : (g == f) = false := beq_eq_false_iff_ne.mpr h
      simp only [List.lookup, hb, if_neg h]
  | (k, x) :: r => by
    have ih := lookup_putF f g v r
    rw [show putF f v ((k, x) :: r) = (if k = f then (k, v) :: r else (k, x) :: putF f v r) from rfl]
    by_cases hk : k = f
    · rw [if_pos hk]
      by_cases h : g = k
      · have hb : (g == k) = true := beq_iff_eq.mpr h
        simp only [List.lookup, hb, if_pos (h.trans hk)]
      · have hb : (g == k) = false := beq_eq_false_iff_ne.mpr h
        simp only [List.lookup, hb, if_neg (fun e : g = f => h (e.trans hk.symm))]
    · rw [if_neg hk]
      by_cases h : g = k
      · have hb : (g == k) = true := beq_iff_eq.mpr h
        simp only [List.lookup, hb, if_neg (fun e : g = f => hk (h.symm.trans e))]
      · have hb : (g == k) = false := beq_eq_false_iff_ne.mpr h
        simp only [List.lookup, hb]
        exact ih
theorem keys_putF (f : Str) (v : V) : ∀ fs : List (Str × V), f ∈ (putF f v fs).map (·.1) ∧ ∀ g, g ∈ fs.map (·.1) → g ∈ (putF f v fs).map (·.1)
  | [] => ⟨by simp [putF], fun g h => by simp at h⟩
  | (k, x) :: r => by
    obtain ⟨i1, i2⟩ := keys_putF f v r
    rw [show putF f v ((k, x) :: r) = (if k = f then (k, v) :: r else (k, x) :: putF f v r) from rfl]
    by_cases hk : k = f
    · rw [if_pos hk]
      subst hk
      exact ⟨by simp, fun g h => by simpa using h⟩
    · rw [if_neg hk]
      refine ⟨?_, fun g h => ?_⟩
      · rw [List.map_cons]
        exact List.mem_cons_of_mem _ i1
      · rw [List.map_cons] at h ⊢
        rcases List.mem_cons.mp h with e | e
        · exact List.mem_cons.mpr (.inl e)
        · exact List.mem_cons_of_mem _ (i2 g e)
theorem length_putF (f : Str) (v : V) : ∀ fs : List (Str × V), (putF f v fs).length ≤ fs.length + 1
  | [] => by simp [putF]
  | (k, x) :: r => by
    have ih := length_putF f v r
    rw [show putF f v ((k, x) :: r) = (if k = f then (k, v) :: r else (k, x) :: putF f v r) from rfl]
    by_cases hk : k = f
    · rw [if_pos hk, List.length_cons, List.length_cons]; omega
    · rw [if_neg hk, List.length_cons, List.length_cons]; omega

theorem RelO.some_of {v : V} {o : Option Value} (r : RelO (some v) o) : ∃ u, o = some u ∧ RelV v u := by
  cases o with
  | none => exact (show False from r).elim
  | some u => exact ⟨u, rfl, r⟩
theorem RelO.none_of {o : Option Value} (r : RelO none o) : o = none := by
  cases o with
  | none => rfl
  | some u => exact (show False from r).elim
theorem handed_of {v : V} {u : Value} (r : RelV v u) : PySem.W.handedIn u = true := by
  cases v with
  | non => cases (show u = Value.none from r); rfl
  | bl b => cases (show u = Value.bool b from r); rfl
  | int i => obtain ⟨t, e⟩ := (show ∃ t, u = Value.int i t from r); cases e; rfl
  | str x => obtain ⟨t, e⟩ := (show ∃ t, u = Value.str x t from r); cases e; rfl
  | byt b => obtain ⟨t, e⟩ := (show ∃ t, u = Value.bytes b t from r); cases e; rfl
  | flt b => obtain ⟨t, e⟩ := (show ∃ t, u = Value.float b t from r); cases e; rfl
  | ref a => cases (show u = Value.ref a from r); rfl
  | ty n => cases (show u = Value.type n from r); rfl

section
variable {P : Program} {w : World} {H H' : Hp} {h h' : Heap} {a C dx : Addr} {fs fs' : List (Str × V)}
theorem ins_get (hok : HOk P w H h) (e : H a = some (.ins C dx fs)) : ∃ mA, ObjM h a dx C mA ∧ (∀ f, RelO (fs.lookup f) (mA f)) ∧ PySem.Within mA (fs.map (·.1)) ∧ fs.length ≤ 1000 ∧ H dx = some (.own a) := by
  obtain ⟨d, z, ne, ob, mA, n, r, q⟩ := (show ObjOk P w H h a (.ins C dx fs) from hok a _ e)
  exact ⟨mA, ⟨ob, n, ne⟩, r, q, z, d⟩
end

/-! ### what of the text a class must have -/
structure Cls (K : PySem.W.Frag) (C : Addr) : Prop where
  pg : PySem.W.plainGet K C Str.empty = true
  hd : PySem.W.hasDictIn K C = true
  po : PySem.W.plainOver K C = true
  sa : PySem.W.findIn K (.ref C) "__setattr__" = some (some (.builtin "object.__setattr__"))
theorem Cls.get {K : PySem.W.Frag} {C : Addr} (c : Cls K C) (f : Str) : PySem.W.plainGet K C f = true := c.pg
/-- no class of it has the name -/
def NoAttr (K : PySem.W.Frag) (C : Addr) (f : Str) : Prop := PySem.W.findIn K (.ref C) f = some none
theorem NoAttr.taker {K : PySem.W.Frag} {C : Addr} {f : Str} (n : NoAttr K C f) : PySem.W.takerIn K C f = some none := by
  unfold PySem.W.takerIn
  rw [show PySem.W.findIn K (.ref C) f = some none from n]
  rfl
/-- a constant of the class -/
structure Con (K : PySem.W.Frag) (C : Addr) (f : Str) (v : V) (u : Value) : Prop where
  at_ : PySem.W.findIn K (.ref C) f = some (some u)
  rel : RelV v u
  get : PySem.W.specialIn K u "__get__" = some none
  cp : PySem.W.copiedNames.contains f = false
/-- a method: a plain def of the class or of one above it -/
structure Meth (K : PySem.W.Frag) (C : Addr) (m : Str) (f : Addr) : Prop where
  at_ : PySem.W.findIn K (.ref C) m = some (some (.ref f))
  fn : PySem.W.isFn K (.ref f) = true
  kp : PySem.W.keepIn K (.ref f) = true

section
variable {X : Cx} {pins : List (Addr × Obj)} {σ : St} {H : Hp} {s : Shared} {a C dx : Addr} {fs : List (Str × V)} {f : Str} {v : V} {A : Around} {E : Value → Shared → Prop}

theorem getattr_ok {b : Bool} {Q : Value → Shared → Prop} (I : Inv X pins σ H s) (e : H a = some (.ins C dx fs)) (c : Cls X.K C) (n : NoAttr X.K C f) (l : fs.lookup f = some v)
    (h : ∀ u s', Inv X pins σ H s' → RelV v u → Q u s') : wpAny (model X.prog X.w) A (getAttr (.ref a) f b) Q E s := by
  obtain ⟨mA, O, r, _, _, _⟩ := ins_get I.hok e
  obtain ⟨u, hu, ru⟩ := RelO.some_of (v := v) (o := mA f) (by rw [← l]; exact r f)
  exact get_map I.kIn O (c.get f) c.hd n hu (handed_of ru) (h u _ (I.tok _) ru)


theorem getmeth_ok {m : Str} {g : Addr} {pl : Sem Bool} {Q : Value × List Value → Shared → Prop} (I : Inv X pins σ H s) (e : H a = some (.ins C dx fs)) (c : Cls X.K C) (k : Meth X.K C m g) (l : fs.lookup m = none)
    (h : Q (.ref g, [.ref a]) s) : wpAny (model X.prog X.w) A (getMethod (.ref a) m pl) Q E s := by
  obtain ⟨mA, O, r, _, _, _⟩ := ins_get I.hok e
  have hn : mA m = none := RelO.none_of (by rw [← l]; exact r m)
  exact get_meth I.kIn O (c.get m) k.at_ k.fn hn h

theorem setattr_ok {y : V} {u : Value} {Q : Unit → Shared → Prop} (I : Inv X pins σ H s) (e : H a = some (.ins C dx fs)) (c : Cls X.K C) (n : NoAttr X.K C f) (hl : fs.length < 1000) (ry : RelV y u)
    (h : ∀ s', Inv X pins σ (upd H a (.ins C dx (putF f y fs))) s' → Q () s') : wpAny (model X.prog X.w) A (setAttr (.ref a) f u) Q E s := by
  obtain ⟨mA, O, r, wi, _, ho⟩ := ins_get I.hok e
  have hz : (fs.map (·.1)).length ≤ sizeLine := by rw [List.length_map, sizeLine_eq]; omega
  refine set_map I.kIn O c.sa c.po n.taker c.hd wi hz fun h' O' sb => h _ ?_
  have hd : ∃ o, h'.get? dx = some o := let ⟨o, _, _, e', _⟩ := O'.ns; ⟨o, e'⟩
  refine I.write (x := a) (e := dx) (by rw [e]; exact True.intro) (.inr ho) (fun b q hb z => (sb.2 b hb).trans z) hd ?_
  refine ⟨by rw [upd_ne O.ne]; exact ho, ?_, O.ne, O'.obj, _, O'.ns, fun g => ?_, fun g hg => ?_⟩
  · have := length_putF f y fs; omega
  · show RelO ((putF f y fs).lookup g) (if g = f then some u else mA g)
    rw [lookup_putF]
    by_cases q : g = f
    · rw [if_pos q, if_pos q]; exact ry
    · rw [if_neg q, if_neg q]; exact r g
  · by_cases q : g = f
    · rw [q]; exact (keys_putF f y fs).1
    · refine (keys_putF f y fs).2 g (wi g fun z => hg ?_)
      show (if g = f then some u else mA g) = none
      rw [if_neg q]; exact z

/-- a new instance, tracked, without attributes -/
theorem Inv.made (I : Inv X pins σ H s) : Inv X pins σ (upd (upd H s.heap.objs.size (.own (s.heap.objs.size + 1))) (s.heap.objs.size + 1) (.ins C s.heap.objs.size []))
    { s with heap := (s.heap.push PySem.W.emptyDict).push (PySem.W.instObj C s.heap.objs.size) } := by
  have e1 : (s.heap.push PySem.W.emptyDict).get? s.heap.objs.size = some PySem.W.emptyDict := Heap.get?_push_size s.heap rfl
  have e2 : ((s.heap.push PySem.W.emptyDict).push (PySem.W.instObj C s.heap.objs.size)).get? (s.heap.objs.size + 1) = some (PySem.W.instObj C s.heap.objs.size) := by
    have := Heap.get?_push_size (s.heap.push PySem.W.emptyDict) (o := PySem.W.instObj C s.heap.objs.size) rfl
    rwa [Heap.size_push] at this
  have e3 : (s.heap.push PySem.W.emptyDict).Ns s.heap.objs.size (fun _ => none) := ⟨PySem.W.emptyDict, #[], _, e1, rfl, (fun e he => absurd he (by simp)), fun _ => rfl⟩
  have I1 := I.laid (a := s.heap.objs.size) (o := .own (s.heap.objs.size + 1)) (h' := s.heap.push PySem.W.emptyDict) (t' := s.toks) (fun b u q => Heap.get?_push_of_some _ q) (Nat.le_refl _) ⟨_, e1⟩
  refine I1.laid (a := s.heap.objs.size + 1) (o := .ins C s.heap.objs.size []) (t' := s.toks) (fun b u q => Heap.get?_push_of_some _ q) (Nat.le_of_eq (Heap.size_push _ _)) ?_
  have ne : s.heap.objs.size ≠ s.heap.objs.size + 1 := Nat.ne_of_lt (Nat.lt_succ_self _)
  refine ⟨by rw [upd_ne ne, upd_same], Nat.zero_le _, ne, e2, fun _ => none, (Heap.Ns1.of_empty e3).at fun o q => Heap.get?_push_of_some _ q, fun _ => True.intro, fun y hy => absurd rfl hy⟩

/-- e.f where nothing but the object is asked: through attributeBase (super) and the last hold -/
theorem attr_of {prog : Program} {w : World} {env : Env} {e : Expr} {f : Str} {pos : Pos} {s : Shared} {Q : Value → Shared → Prop} (hb : attributeBase e f env (eval e env) = eval e env)
    (h : wpAny (model prog w) A (eval e env) (fun o s₁ => wpAny (model prog w) A (getAttr o f true) Q E s₁) E s) : wpAny (model prog w) A (eval (.Attribute e f pos) env) Q E s :=
  Attribute_any_ h (by rw [arm_eval_Attribute, hb])
end

/-! ### readings and rules -/
/-- e.f, an attribute of the instance -/
def tFld (K : PySem.W.Frag) (ta : TE) (f : Str) : TE := fun σ H Q => ta σ H fun x H1 => ∃ a C dx fs v, x = .ref a ∧ H1 a = some (.ins C dx fs) ∧ Cls K C ∧ NoAttr K C f ∧ fs.lookup f = some v ∧ Q v H1
/-- e.f = value -/
def sFld (K : PySem.W.Frag) (ta tv : TE) (f : Str) : TS := fun D σ H => tv σ H fun y H1 => ta σ H1 fun x H2 => ∃ a C dx fs, x = .ref a ∧ H2 a = some (.ins C dx fs) ∧ Cls K C ∧ NoAttr K C f ∧ fs.length < 1000 ∧
  D.nx σ (upd H2 a (.ins C dx (putF f y fs)))

section
variable {X : Cx} {o e value : Expr} {f : Str} {pos pos' tpos : Pos} {ta tv : TE}
theorem pe_fld (he : PE X e ta) (hb : attributeBase e f X.env (eval e X.env) = eval e X.env) : PE X (.Attribute e f pos) (tFld X.K ta f) := by
  intro pins s σ H Q I h
  refine attr_of hb (thn (he pins s σ H _ I h) fun u s1 ⟨x, H1, I1, rx, a, C, dx, fs, v, ex, ea, c, n, l, q⟩ => ?_)
  subst ex
  obtain rfl : u = Value.ref a := rx
  exact getattr_ok I1 ea c n l fun u' s2 I2 ru => ⟨v, H1, I2, ru, q⟩
theorem ps_fld (ha : PE X o ta) (hv : PE X value tv) (hs : swapsWith value (some (.Attribute o f pos')) pos.line X.env = pure false) : PS X (.Assign [.Attribute o f pos'] value pos) (sFld X.K ta tv f) := by
  intro pins s σ H D I h
  refine plainObj_wpAny_Assign_Attribute (thn (hv pins s σ H _ I h) fun u s1 ⟨y, H1, I1, ry, q⟩ => thn (ha pins s1 σ H1 _ I1 q) fun ov s2 ⟨x, H2, I2, rx, a, C, dx, fs, ex, ea, c, n, l, q2⟩ => ?_) hs
  subst ex
  obtain rfl : ov = Value.ref a := rx
  exact setattr_ok I2 ea c n l ry fun s3 I3 => ⟨σ, _, I3, q2⟩

/-- what is between an instance and its method: the tree of a method call -/
theorem methcall_of {pl : Sem Bool} {m : Str} {apos : Pos} {args : List Expr} {pins : List (Addr × Obj)} {s : Shared} {σ : St} {H : Hp} {Q : Value → Shared → Prop} {te : TE} (he : PE X e te) (I : Inv X pins σ H s)
    (h : te σ H fun x H1 => ∃ a C dx fs g, x = .ref a ∧ H1 a = some (.ins C dx fs) ∧ Cls X.K C ∧ Meth X.K C m g ∧ fs.lookup m = none ∧
      ∀ s1, Inv X pins σ H1 s1 → wpAny (model X.prog X.w) X.A (callWith pos (.ref g) [.ref a] (backTo pos (starEach args X.env)) (backToKw pos (keywordEach [] X.env))) Q X.xe s1)
    (ht : eval (.Call (.Attribute e m apos) args [] pos) X.env = (do
      let ov ← eval e X.env
      standAt apos.atName
      let (f, first) ← holding [ov] (getMethod ov m pl)
      callWith pos f first (backTo pos (starEach args X.env)) (backToKw pos (keywordEach [] X.env)))) :
    wpAny (model X.prog X.w) X.A (eval (.Call (.Attribute e m apos) args [] pos) X.env) Q X.xe s := by
  refine PySem.W.methodCall_KW (pl := pl) (thn (he pins s σ H _ I h) fun u s1 ⟨x, H1, I1, rx, a, C, dx, fs, g, ex, ea, c, k, l, q⟩ => ?_) ht
  subst ex
  obtain rfl : u = Value.ref a := rx
  exact getmeth_ok I1 ea c k l (q s1 I1)
end

/-! ### isinstance -/
section
variable {X : Cx} {pins : List (Addr × Obj)} {σ : St} {H : Hp} {s : Shared} {A : Around} {E : Value → Shared → Prop} {Q : Value → Shared → Prop} {c : Value} {b : Bool}
/-- the type of a value, as the fragment's deciders take it; for an instance its class -/
inductive TyOf (K : PySem.W.Frag) (H : Hp) : V → Value → Prop where
  | non : TyOf K H .non (.type "NoneType")
  | bl (x : Bool) : TyOf K H (.bl x) (.type "bool")
  | int (i : Int) : TyOf K H (.int i) (.type "int")
  | str (x : Str) : TyOf K H (.str x) (.type "str")
  | flt (x : UInt64) : TyOf K H (.flt x) (.type "float")
  | lst {a : Addr} {xs : List V} (e : H a = some (.lst xs)) : TyOf K H (.ref a) (.type "list")
  | frz {a : Addr} {o : Obj} {xs : List V} (e : H a = some (.frz o (.lst xs))) : TyOf K H (.ref a) (.type "list")
  | tup {a : Addr} {xs : List V} (e : H a = some (.tup xs)) : TyOf K H (.ref a) (.type "tuple")
  | dK {a : Addr} {kvs : List (Key × V)} (e : H a = some (.dK kvs)) : TyOf K H (.ref a) (.type "dict")
  | dT {a : Addr} {kvs : List (List Key × V)} (e : H a = some (.dT kvs)) : TyOf K H (.ref a) (.type "dict")
  | ins {a C dx : Addr} {fs : List (Str × V)} (e : H a = some (.ins C dx fs)) (cl : Cls K C) (ha : PySem.W.findIn K (.ref C) "__class__" = some (some (.builtin "object.__class__")))
      (hn : PySem.W.specialIn K (.builtin "object.__class__") "__get__" = some (some (.builtin "getset_descriptor.__get__"))) (htk : PySem.W.takesIn K (.builtin "object.__class__") = some true)
      (hm : PySem.W.mroIn K C (.type "object") = some true) : TyOf K H (.ref a) (.ref C)
end
end L2

namespace L2
open PySem PySem.Spec PyProof.Rows

/-! ### room -/
structure Room (k : Nat) (A : Around) : Prop where
  hd : A.handled = none
  dp : A.depth + 3 * k + 5 < recursionLimit
  un : A.units + 16 * k + 200 < cLine
theorem Room.mono {j k : Nat} {A : Around} (r : Room k A) (h : j ≤ k) : Room j A := ⟨r.hd, by have := r.dp; omega, by have := r.un; omega⟩
theorem Room.deeper {k : Nat} {A : Around} (r : Room (k + 1) A) (env : Env) : Room k (A.deeper env) :=
  ⟨r.hd, by have := r.dp; show A.depth + 1 + 3 * k + 5 < _; omega, by have := r.un; show A.units + 3 + 16 * k + 200 < _; omega⟩
theorem make_depth {A : Around} {C : Addr} {us : List Value} {kw : List (Str × Value)} : (A.under (.builtin "type.__call__" ⟨.ref C :: us, kw⟩)).depth = A.depth + 1 := by
  first | rfl | simp [Around.under, Code.weight, Code.isCreation, Code.isGuard, Code.isCaller, Code.frames, Code.isFrame, guardIds]
theorem make_units {A : Around} {C : Addr} {us : List Value} {kw : List (Str × Value)} : (A.under (.builtin "type.__call__" ⟨.ref C :: us, kw⟩)).units = A.units + 1 := by
  first | rfl | simp [Around.under, Code.cUnits, Code.frames, Code.isFrame]
theorem Room.make {k : Nat} {A : Around} (r : Room (k + 1) A) (C : Addr) (us : List Value) (kw : List (Str × Value)) : Room k (A.under (.builtin "type.__call__" ⟨.ref C :: us, kw⟩)) :=
  ⟨r.hd, by have := r.dp; rw [make_depth]; omega, by have := r.un; rw [make_units]; omega⟩
theorem Room.depth {k : Nat} {A : Around} (r : Room k A) : A.depth < recursionLimit := by have := r.dp; omega
theorem Room.units {k : Nat} {A : Around} (r : Room k A) : A.units + 64 < cLine := by have := r.un; omega

/-! ### argument lists and displays -/
def tNil : TA := fun _ H Q => Q [] H
def tCons (ta : TE) (tr : TA) : TA := fun σ H Q => ta σ H fun x H1 => tr σ H1 fun xs H2 => Q (x :: xs) H2
section
variable {X : Cx} {e : Expr} {es : List Expr} {te : TE} {t : TA} {pos : Pos}
theorem pa_nil : PA X [] tNil := fun _ _ _ _ H Q I h => Calls.spliced_nil ⟨[], H, I, .nil, h⟩
theorem pa_cons (ha : PE X e te) (hr : PA X es t) (hs : starEach (e :: es) X.env = (false, eval e X.env) :: starEach es X.env := by rfl) : PA X (e :: es) (tCons te t) := by
  intro pos pins s σ H Q I h
  rw [hs]
  show wpAny _ _ (spliced ((false, eval e X.env) :: backTo pos (starEach es X.env))) _ _ s
  refine Calls.spliced_cons (thn (ha pins s σ H _ I h) fun u s1 ⟨x, H1, I1, r1, q1⟩ => ?_)
  exact thn (hr pos pins s1 σ H1 _ I1 q1) fun us s2 ⟨xs, H2, I2, r2, q2⟩ => ⟨x :: xs, H2, I2, .cons r1 r2, q2⟩

/-- a tuple, a list of written items -/
def tTup (t : TA) : TE := fun σ H Q => t σ H fun xs H1 => xs.length ≤ sizeLine ∧ ∀ p, H1 p = none → Q (.ref p) (upd H1 p (.tup xs))
def tLst (t : TA) : TE := fun σ H Q => t σ H fun xs H1 => xs.length ≤ sizeLine ∧ ∀ p, H1 p = none → Q (.ref p) (upd H1 p (.lst xs))
theorem pe_tup {x1} (h : PA X es t) : PE X (.Tuple es x1 pos) (tTup t) := by
  intro pins s σ H Q I hq
  refine wpAny_Tuple_spliced (thn (h pos pins s σ H _ I hq) fun us s1 ⟨xs, H1, I1, r, z, q⟩ => ⟨by rw [← r.length]; exact z, ?_⟩)
  have hf : H1 s1.heap.objs.size = none := I1.hok.fresh (Nat.le_refl _)
  refine ⟨.ref s1.heap.objs.size, upd H1 s1.heap.objs.size (.tup xs), I1.laid (t' := s1.toks) (fun b u e => Heap.get?_push_of_some _ e) (Nat.le_refl _) ?_, rfl, q _ hf⟩
  exact ⟨z, us, r, ⟨_, Heap.get?_push_size _ rfl, rfl, _, rfl⟩⟩
theorem pe_lst (h : PA X es t) : PE X (.List es pos) (tLst t) := by
  intro pins s σ H Q I hq
  refine wpAny_List_spliced (thn (h pos pins s σ H _ I hq) fun us s1 ⟨xs, H1, I1, r, z, q⟩ => ⟨by rw [← r.length]; exact z, ?_⟩)
  have hf : H1 s1.heap.objs.size = none := I1.hok.fresh (Nat.le_refl _)
  refine ⟨.ref s1.heap.objs.size, upd H1 s1.heap.objs.size (.lst xs), I1.laid (t' := s1.toks) (fun b u e => Heap.get?_push_of_some _ e) (Nat.le_refl _) ?_, rfl, q _ hf⟩
  exact ⟨z, us, 0, r, Heap.get?_push_size _ rfl⟩
end

/-! ### what a def promises -/
/-- a def's promise: the bound arguments in the parameters' order, the heap, the wanted end, the wanted exception -/
abbrev Sp := List V → Hp → VK → XK → Prop
/-- how an exception lies behind a call (file 08 gives it): the callers' frames, abstract heap and state ahead of the call, the wish, the exception, the state -/
abbrev CXT := List Env → Hp → Shared → XK → Value → Shared → Prop

/-- the state at a call -/
structure Env0 (P : Program) (w : World) (K : PySem.W.Frag) (mg : Str → Option Value) (base : Heap) (A : Around) (outer : List Env) (s : Shared) (H : Hp) : Prop where
  frames : A.frames = some outer
  mod : Mod K mg base
  bs : ∀ b o, base.get? b = some o → s.heap.get? b = some o ∧ H b = none
  bsz : base.objs.size ≤ s.heap.objs.size
  funs : s.heap.FunFrames base outer
  frf : ∀ b ∈ frs outer, H b = none
  hok : HOk P w H s.heap
  bare : AllBare s.gens
/-- a call's end -/
def CE (outer : List Env) (P : Program) (w : World) (H : Hp) (s : Shared) (Q : VK) (u : Value) (s' : Shared) : Prop :=
  ∃ v H', s'.os = s.os ∧ AllBare s'.gens ∧ Un (frs outer) [] H H' s.heap s'.heap ∧ HOk P w H' s'.heap ∧ RelV v u ∧ Q v H'
def CR (CX : CXT) (outer : List Env) (P : Program) (w : World) (H : Hp) (s : Shared) (Q : VK) (E : XK) (r : Result) (s' : Shared) : Prop :=
  match r with
  | .ok (.ret u) => CE outer P w H s Q u s'
  | .ok _ => False
  | .error e => CX outer H s E e s'
structure FnOk (P : Program) (w : World) (K : PySem.W.Frag) (mg : Str → Option Value) (base : Heap) (CX : CXT) (k : Nat) (f : Addr) (fd : FuncData) (ps : List Str) (sp : Sp) : Prop where
  len : ∀ vs H Q E, sp vs H Q E → vs.length = ps.length
  run : ∀ (A : Around) (outer : List Env) (s : Shared) (H : Hp) (args : Args) (us : List Value) (vs : List V) (Q : VK) (E : XK), Room k A → Env0 P w K mg base A outer s H → BindsTo s fd args (ps.zip us) → Vals vs us → sp vs H Q E →
    codeAny (model P w) A (.call (.ref f) args) (CR CX outer P w H s Q E) s

theorem Env0.make {P : Program} {w : World} {K : PySem.W.Frag} {mg : Str → Option Value} {base : Heap} {A : Around} {outer : List Env} {s : Shared} {H : Hp} (e : Env0 P w K mg base A outer s H) (C : Addr) (us : List Value) (kw : List (Str × Value)) :
    Env0 P w K mg base (A.under (.builtin "type.__call__" ⟨.ref C :: us, kw⟩)) outer s H := ⟨by first | exact e.frames | (simpa [Around.under, Code.envs, Code.isFrame, pushEnvs] using e.frames), e.mod, e.bs, e.bsz, e.funs, e.frf, e.hok, e.bare⟩

section
variable {X : Cx} {pins : List (Addr × Obj)} {σ : St} {H : Hp} {s s' : Shared}
/-- from a body: what a callee wants -/
theorem Inv.env0 (I : Inv X pins σ H s) : Env0 X.prog X.w X.K X.mg X.base X.A X.stack s H :=
  ⟨I.ok.frames, I.ok.mod, I.bs, Nat.le_trans I.ok.bsz I.sz, I.stack, I.stkFree, I.hok, I.bare⟩
/-- behind a call -/
theorem Inv.after {Q : VK} {u : Value} (I : Inv X pins σ H s) (h : CE X.stack X.prog X.w H s Q u s') : EP X pins σ Q u s' := by
  obtain ⟨v, H', os, bare, un, hok, r, q⟩ := h
  obtain ⟨hh, g, d, t, os'⟩ := s'
  obtain rfl : os' = s.os := os
  exact ⟨v, H', I.call (h' := hh) (g' := g) (d' := d) (t' := t) (ch := []) un hok bare (fun b z => absurd z (by simp)), r, q⟩
end

/-! ### calls -/
/-- f(..): the written arguments, then the defaults dvs; E: what is wanted of an exception -/
def tCall (sp : Sp) (dvs : List V) (E : XK) (t : TA) : TE := fun σ H Q => t σ H fun vs H1 => sp (vs ++ dvs) H1 Q E
/-- o.m(..) of an instance of the class at C -/
def tMeth (C : Addr) (m : Str) (sp : Sp) (dvs : List V) (E : XK) (ta : TE) (t : TA) : TE := fun σ H Q => ta σ H fun x H1 => ∃ a dx fs, x = .ref a ∧ H1 a = some (.ins C dx fs) ∧ fs.lookup m = none ∧
  t σ H1 fun vs H2 => sp (x :: (vs ++ dvs)) H2 Q E
/-- C(..): a new instance and its dict, then __init__ -/
def tMake (C : Addr) (sp : Sp) (dvs : List V) (E : XK) (t : TA) : TE := fun σ H Q => t σ H fun vs H1 => ∀ x dx, H1 x = none → H1 dx = none → dx ≠ x →
  sp (.ref x :: (vs ++ dvs)) (upd (upd H1 dx (.own x)) x (.ins C dx [])) (fun v H2 => v = .non ∧ Q (.ref x) H2) E

/-- how the parameters are bound: us the positional arguments, kw the keywords' values by name, ds the defaults that fill up -/
def Binds (K : PySem.W.Frag) (fd : FuncData) (ps : List Str) (ds : List Value) : Prop :=
  ∀ (s : Shared) (us : List Value), K.In s.heap → (us ++ ds).length = ps.length → BindsTo s fd ⟨us, []⟩ (ps.zip (us ++ ds))
/-- every parameter is given -/
theorem Binds.all {K : PySem.W.Frag} {fd : FuncData} {ps : List Str} (h : ∀ us : List Value, us.length = ps.length → bindArgs fd ⟨us, []⟩ = pure (ps.zip us)) : Binds K fd ps [] := fun s us _ hl => by
  rw [List.append_nil] at hl ⊢
  exact .of_eq (h us hl)

/-- an exception of a callee reaches what this body wants of exceptions -/
def Passes (CX : CXT) (X : Cx) (E : XK) : Prop := ∀ (pins : List (Addr × Obj)) (σ : St) (H : Hp) (s : Shared) (e : Value) (s' : Shared), Inv X pins σ H s → CX X.stack H s E e s' → X.xe e s'

section
variable {X : Cx} {CX : CXT} {k : Nat} {f C : Addr} {fd : FuncData} {ps : List Str} {sp : Sp} {dvs : List V} {ds : List Value} {E : XK} {x m : Str} {p pos apos : Pos} {e o : Expr} {es : List Expr} {ta : TE} {t : TA}

/-- the callee runs -/
theorem run_fn {pins : List (Addr × Obj)} {σ : St} {H : Hp} {s : Shared} {Q : VK} {us : List Value} {vs : List V} (F : FnOk X.prog X.w X.K X.mg X.base CX k f fd ps sp) (hr : Room k X.A) (hb : Binds X.K fd ps ds) (hd : Vals dvs ds) (hx : Passes CX X E)
    (I : Inv X pins σ H s) (r : Vals vs us) (h : sp (vs ++ dvs) H Q E) : wpAny (model X.prog X.w) X.A (call (.ref f) us) (EP X pins σ Q) X.xe s := by
  have r2 : Vals (vs ++ dvs) (us ++ ds) := r.append hd
  have hl : (us ++ ds).length = ps.length := by rw [← r2.length]; exact F.len _ _ _ _ h
  refine wpAny_call (codeAny_mono (F.run X.A X.stack s H ⟨us, []⟩ (us ++ ds) (vs ++ dvs) Q E hr I.env0 (hb s us I.kIn hl) r2 h) fun r s' hq => ?_)
  cases r with
  | error e => exact hx pins σ H s e s' I hq
  | ok fl =>
    cases fl with
    | ret u => exact I.after hq
    | next => exact False.elim hq
    | brk => exact False.elim hq
    | cont => exact False.elim hq

theorem pe_call (F : FnOk X.prog X.w X.K X.mg X.base CX k f fd ps sp) (hr : Room k X.A) (hg : Gl X x) (hm : X.mg x = some (.ref f)) (hk : PySem.W.keepIn X.K (.ref f) = true) (hb : Binds X.K fd ps ds) (hd : Vals dvs ds) (hx : Passes CX X E)
    (ha : PA X (e :: es) t) (hdb : (x == ("__debug__" : Str)) = false := by decide) (he : starEach (e :: es) X.env = (false, eval e X.env) :: starEach es X.env := by rfl) (hpl : (backTo pos (starEach es X.env)).any (·.1) = false := by rfl) :
    PE X (.Call (.Name x p) (e :: es) [] pos) (tCall sp dvs E t) := by
  intro pins s σ H Q I h
  refine wpAny_Call_Name_kw (ld_glob I hg hm ?_ hdb)
  refine PySem.W.callWith_K (h₀ := X.base) I.ok.mod.kin hk (thn (ha pos pins s σ H _ I h) fun us s1 ⟨vs, H1, I1, r, q⟩ => ⟨I1.kIn, ?_⟩) he hpl
  exact run_fn F hr hb hd hx I1 r q
theorem pe_call0 (F : FnOk X.prog X.w X.K X.mg X.base CX k f fd ps sp) (hr : Room k X.A) (hg : Gl X x) (hm : X.mg x = some (.ref f)) (hk : PySem.W.keepIn X.K (.ref f) = true) (hb : Binds X.K fd ps ds) (hd : Vals dvs ds) (hx : Passes CX X E)
    (hdb : (x == ("__debug__" : Str)) = false := by decide) : PE X (.Call (.Name x p) [] [] pos) (tCall sp dvs E tNil) := by
  intro pins s σ H Q I h
  refine wpAny_Call_Name_kw (ld_glob I hg hm ?_ hdb)
  exact PySem.W.callWith_K0 I.kIn hk (run_fn (us := []) F hr hb hd hx I .nil h)

/-- o.m(e, ..) -/
theorem pe_meth {pl : Sem Bool} (he : PE X o ta) (c : Cls X.K C) (hm : Meth X.K C m f) (F : FnOk X.prog X.w X.K X.mg X.base CX k f fd ps sp) (hr : Room k X.A) (hb : Binds X.K fd ps ds) (hd : Vals dvs ds) (hx : Passes CX X E) (ha : PA X (e :: es) t)
    (hst : starEach (e :: es) X.env = (false, eval e X.env) :: starEach es X.env := by rfl) (hpl : (backTo pos (starEach es X.env)).any (·.1) = false := by rfl)
    (ht : eval (.Call (.Attribute o m apos) (e :: es) [] pos) X.env = (do
      let ov ← eval o X.env
      standAt apos.atName
      let (f, first) ← holding [ov] (getMethod ov m pl)
      callWith pos f first (backTo pos (starEach (e :: es) X.env)) (backToKw pos (keywordEach [] X.env))) := by rfl) :
    PE X (.Call (.Attribute o m apos) (e :: es) [] pos) (tMeth C m sp dvs E ta t) := by
  intro pins s σ H Q I h
  refine PySem.W.methodCall_KW (pl := pl) (thn (he pins s σ H _ I h) fun u s1 ⟨x, H1, I1, rx, a, dx, fs, ex, ea, l, q⟩ => ?_) ht
  subst ex
  obtain rfl : u = Value.ref a := rx
  refine getmeth_ok I1 ea c hm l ?_
  refine PySem.W.callWith_K (first := [.ref a]) (h₀ := X.base) I.ok.mod.kin hm.kp (thn (ha pos pins s1 σ H1 _ I1 q) fun us s2 ⟨vs, H2, I2, r, q2⟩ => ⟨I2.kIn, ?_⟩) hst hpl
  exact run_fn (us := .ref a :: us) (vs := .ref a :: vs) F hr hb hd hx I2 (.cons rfl r) q2
/-- o.m() -/
theorem pe_meth0 {pl : Sem Bool} (he : PE X o ta) (c : Cls X.K C) (hm : Meth X.K C m f) (F : FnOk X.prog X.w X.K X.mg X.base CX k f fd ps sp) (hr : Room k X.A) (hb : Binds X.K fd ps ds) (hd : Vals dvs ds) (hx : Passes CX X E)
    (ht : eval (.Call (.Attribute o m apos) [] [] pos) X.env = (do
      let ov ← eval o X.env
      standAt apos.atName
      let (f, first) ← holding [ov] (getMethod ov m pl)
      callWith pos f first (backTo pos (starEach [] X.env)) (backToKw pos (keywordEach [] X.env))) := by rfl) :
    PE X (.Call (.Attribute o m apos) [] [] pos) (tMeth C m sp dvs E ta tNil) := by
  intro pins s σ H Q I h
  refine PySem.W.methodCall_KW (pl := pl) (thn (he pins s σ H _ I h) fun u s1 ⟨x, H1, I1, rx, a, dx, fs, ex, ea, l, q⟩ => ?_) ht
  subst ex
  obtain rfl : u = Value.ref a := rx
  refine getmeth_ok I1 ea c hm l ?_
  exact PySem.W.callWith_K0 (first := [.ref a]) I1.kIn hm.kp (run_fn (us := [.ref a]) (vs := [.ref a]) F hr hb hd hx I1 (.cons rfl .nil) q)

/-- what a class must have to be made -/
structure Mk (K : PySem.W.Frag) (C f : Addr) : Prop where
  makes : PySem.W.makesIn K C = true
  init : PySem.W.findIn K (.ref C) "__init__" = some (some (.ref f))
  fn : PySem.W.isFn K (.ref f) = true
  kp : PySem.W.keepIn K (.ref C) = true

theorem run_make {pins : List (Addr × Obj)} {σ : St} {H : Hp} {s : Shared} {Q : VK} {us : List Value} {vs : List V} (M : Mk X.K C f) (F : FnOk X.prog X.w X.K X.mg X.base CX k f fd ps sp) (hr : Room (k + 1) X.A) (hb : Binds X.K fd ps ds) (hd : Vals dvs ds)
    (hx : Passes CX X E) (I : Inv X pins σ H s) (r : Vals vs us)
    (h : ∀ x dx, H x = none → H dx = none → dx ≠ x → sp (.ref x :: (vs ++ dvs)) (upd (upd H dx (.own x)) x (.ins C dx [])) (fun v H2 => v = .non ∧ Q (.ref x) H2) E) :
    wpAny (model X.prog X.w) X.A (call (.ref C) us) (EP X pins σ Q) X.xe s := by
  have hq := h (s.heap.objs.size + 1) s.heap.objs.size (I.hok.fresh (Nat.le_succ _)) (I.hok.fresh (Nat.le_refl _)) (Nat.ne_of_lt (Nat.lt_succ_self _))
  have I2 := Inv.made (C := C) I
  have r2 : Vals (V.ref (s.heap.objs.size + 1) :: (vs ++ dvs)) (Value.ref (s.heap.objs.size + 1) :: (us ++ ds)) := .cons rfl (r.append hd)
  have hl : (Value.ref (s.heap.objs.size + 1) :: us ++ ds).length = ps.length := by
    have e := r2.length
    rw [F.len _ _ _ _ hq] at e
    exact e.symm
  refine wpAny_call (make_map (f := f) I.kIn M.makes M.init (beq_iff_eq.mp M.fn) (codeAny_mono (F.run _ X.stack _ _ ⟨Value.ref (s.heap.objs.size + 1) :: us, []⟩ (Value.ref (s.heap.objs.size + 1) :: (us ++ ds)) _ _ E (hr.make C us [])
    (I2.env0.make C us []) (hb _ (Value.ref (s.heap.objs.size + 1) :: us) I2.kIn hl) r2 hq) fun r s' hq' => ?_))
  cases r with
  | error e => exact hx pins σ _ _ e s' I2 hq'
  | ok fl =>
    cases fl with
    | ret u =>
      obtain ⟨v, H', I3, rv, ev, q3⟩ := I2.after hq'
      subst ev
      exact ⟨rv, ⟨V.ref (s.heap.objs.size + 1), H', I3, rfl, q3⟩⟩
    | next => exact False.elim hq'
    | brk => exact False.elim hq'
    | cont => exact False.elim hq'
theorem pe_make (M : Mk X.K C f) (F : FnOk X.prog X.w X.K X.mg X.base CX k f fd ps sp) (hr : Room (k + 1) X.A) (hg : Gl X x) (hm : X.mg x = some (.ref C)) (hb : Binds X.K fd ps ds) (hd : Vals dvs ds) (hx : Passes CX X E)
    (ha : PA X (e :: es) t) (hdb : (x == ("__debug__" : Str)) = false := by decide) (he : starEach (e :: es) X.env = (false, eval e X.env) :: starEach es X.env := by rfl) (hpl : (backTo pos (starEach es X.env)).any (·.1) = false := by rfl) :
    PE X (.Call (.Name x p) (e :: es) [] pos) (tMake C sp dvs E t) := by
  intro pins s σ H Q I h
  refine wpAny_Call_Name_kw (ld_glob I hg hm ?_ hdb)
  refine PySem.W.callWith_K (h₀ := X.base) I.ok.mod.kin M.kp (thn (ha pos pins s σ H _ I h) fun us s1 ⟨vs, H1, I1, r, q⟩ => ⟨I1.kIn, ?_⟩) he hpl
  exact run_make M F hr hb hd hx I1 r q
theorem pe_make0 (M : Mk X.K C f) (F : FnOk X.prog X.w X.K X.mg X.base CX k f fd ps sp) (hr : Room (k + 1) X.A) (hg : Gl X x) (hm : X.mg x = some (.ref C)) (hb : Binds X.K fd ps ds) (hd : Vals dvs ds) (hx : Passes CX X E)
    (hdb : (x == ("__debug__" : Str)) = false := by decide) : PE X (.Call (.Name x p) [] [] pos) (tMake C sp dvs E tNil) := by
  intro pins s σ H Q I h
  refine wpAny_Call_Name_kw (ld_glob I hg hm ?_ hdb)
  exact PySem.W.callWith_K0 I.kIn M.kp (run_make (us := []) M F hr hb hd hx I .nil h)
end

/-! ### keywords -/
section
variable {X : Cx} {CX : CXT} {k : Nat} {f C : Addr} {fd : FuncData} {ps ks : List Str} {sp : Sp} {E : XK} {x m : Str} {p pos apos kpos : Pos} {e o : Expr} {es : List Expr} {kws : List Keyword} {te ta : TE} {t tk : TA} {nm : Option Str}

/-- how a call with keywords binds: g puts the positional values us and the keywords' values ws (names ks) in the parameters' order, defaults among them -/
structure KBinds (K : PySem.W.Frag) (fd : FuncData) (ps ks : List Str) (g : List Value → List Value → List Value) (gV : List V → List V → List V) : Prop where
  to : ∀ (s : Shared) (us ws : List Value), K.In s.heap → (g us ws).length = ps.length → BindsTo s fd ⟨us, ks.zip ws⟩ (ps.zip (g us ws))
  rel : ∀ {vs : List V} {us : List Value} {zs : List V} {ws : List Value}, Vals vs us → Vals zs ws → Vals (gV vs zs) (g us ws)
variable {g : List Value → List Value → List Value} {gV : List V → List V → List V}
end

/-! ### a def's body keeps its promise -/
/-- names: the parameters first -/
structure FnScope (N P : List Str) (sc : Scope) : Prop where
  kind : sc.kind = .function
  co : sc.isCoroutine = false
  gen : sc.isGenerator = false
  nd : N.Nodup
  pre : N.take P.length = P
  par : ∀ x ∈ P, sc.names.lookup x = some .local ∨ sc.names.lookup x = some .cell
  nofree : ∀ y ∈ sc.names, y.2 ≠ .free

theorem bindL_out {kindOf : Str → Option NameKind} {x : Str} : ∀ {binds : List (Str × Value)} {m : Str → Option Value}, (∀ v, (x, v) ∉ binds) → bindL kindOf binds m x = m x
  | [], _, _ => rfl
  | (n, v) :: r, m, h => by
    unfold bindL
    rw [bindL_out fun w hw => h w (List.mem_cons_of_mem _ hw)]
    split
    · have : x ≠ n := by rintro rfl; exact h v List.mem_cons_self
      simp [this]
    · rfl
theorem bindC_out {kindOf : Str → Option NameKind} {x : Str} : ∀ {binds : List (Str × Value)} {m : Str → Option Value}, (∀ v, (x, v) ∉ binds) → bindC kindOf binds m x = m x
  | [], _, _ => rfl
  | (n, v) :: r, m, h => by
    unfold bindC
    rw [bindC_out fun w hw => h w (List.mem_cons_of_mem _ hw)]
    split
    · rfl
    · have : x ≠ n := by rintro rfl; exact h v List.mem_cons_self
      simp [this]
theorem bindL_get {kindOf : Str → Option NameKind} {x : Str} {v : Value} : ∀ {P : List Str} {vs : List Value} {i : Nat} {m : Str → Option Value}, P.Nodup → P[i]? = some x → vs[i]? = some v → kindOf x = some .local →
    bindL kindOf (P.zip vs) m x = some v
  | [], _, _, _, _, h, _, _ => by simp at h
  | _ :: _, [], _, _, _, _, h, _ => by simp at h
  | p :: P, w :: vs, 0, m, nd, h1, h2, hk => by
    simp at h1 h2; subst h1; subst h2
    show bindL kindOf ((p, w) :: P.zip vs) m p = _
    unfold bindL
    rw [bindL_out fun v hv => (List.nodup_cons.mp nd).1 (List.of_mem_zip hv).1, if_pos hk]
    simp
  | p :: P, w :: vs, i + 1, m, nd, h1, h2, hk => by
    show bindL kindOf ((p, w) :: P.zip vs) m x = _
    unfold bindL
    exact bindL_get (i := i) (List.nodup_cons.mp nd).2 (by simpa using h1) (by simpa using h2) hk
theorem bindC_get {kindOf : Str → Option NameKind} {x : Str} {v : Value} : ∀ {P : List Str} {vs : List Value} {i : Nat} {m : Str → Option Value}, P.Nodup → P[i]? = some x → vs[i]? = some v → kindOf x ≠ some .local →
    bindC kindOf (P.zip vs) m x = some v
  | [], _, _, _, _, h, _, _ => by simp at h
  | _ :: _, [], _, _, _, _, h, _ => by simp at h
  | p :: P, w :: vs, 0, m, nd, h1, h2, hk => by
    simp at h1 h2; subst h1; subst h2
    show bindC kindOf ((p, w) :: P.zip vs) m p = _
    unfold bindC
    rw [bindC_out fun v hv => (List.nodup_cons.mp nd).1 (List.of_mem_zip hv).1, if_neg hk]
    simp
  | p :: P, w :: vs, i + 1, m, nd, h1, h2, hk => by
    show bindC kindOf ((p, w) :: P.zip vs) m x = _
    unfold bindC
    exact bindC_get (i := i) (List.nodup_cons.mp nd).2 (by simpa using h1) (by simpa using h2) hk

/-- the names' values at the entry -/
def start (N : List Str) (vs : List V) : St := vs.map some ++ List.replicate (N.length - vs.length) none

/-- the context of a def's body, at its entry; an exception leaves the frame, then lies as CX says -/
def cxOf (CX : CXT) (P : Program) (w : World) (K : PySem.W.Frag) (mg : Str → Option Value) (base : Heap) (N : List Str) (qual : Str) (scope : Scope) (f : Addr) (cd : Value) (A : Around) (outer : List Env) (s : Shared) (H : Hp) (E : XK) : Cx where
  prog := P
  w := w
  K := K
  mg := mg
  base := base
  A := A.deeper (envOfC qual scope s.heap.objs.size f cd)
  N := N
  s_0 := s
  H_0 := H
  env := envOfC qual scope s.heap.objs.size f cd
  outer := outer
  stack := envOfC qual scope s.heap.objs.size f cd :: outer
  ex := []
  calm := true
  fn := fun _ => true
  pn := []
  xe := fun e s' => wpAny (model P w) (A.deeper (envOfC qual scope s.heap.objs.size f cd)) (leaving (envOfC qual scope s.heap.objs.size f cd) e) (fun _ s'' => CX outer H s E e s'') (fun e' s'' => CX outer H s E e' s'') s'

theorem cell_has {sc : Scope} {n : Nat} {x : Str} (h : sc.names.lookup x = some .cell) : ∃ c, (cellsFrom n sc.names []).lookup x = some c := by
  have q := PySem.W.cellsFrom_some sc.names n [] (.inl h)
  exact Option.isSome_iff_exists.mp q

theorem inv_start {CX : CXT} {P : Program} {w : World} {K : PySem.W.Frag} {mg : Str → Option Value} {base : Heap} {N ps : List Str} {qual : Str} {scope : Scope} {f : Addr} {cd : Value} {A : Around} {outer : List Env} {s s1 : Shared} {H : Hp} {E : XK} {us : List Value} {vs : List V}
    (S : FnScope N ps scope) (hd : A.handled = none) (e0 : Env0 P w K mg base A outer s H) (hl : vs.length = ps.length) (r : Vals vs us)
    (x : InCallC s s.heap.objs.size (bindL (envOfC qual scope s.heap.objs.size f cd).kindOf (ps.zip us) fun _ => none) (cellsFrom (s.heap.objs.size + 1) scope.names []) (bindC (envOfC qual scope s.heap.objs.size f cd).kindOf (ps.zip us) fun _ => none) s1) :
    Inv (cxOf CX P w K mg base N qual scope f cd A outer s H E) [] (start N vs) H s1 := by
  have hpl : ps.length ≤ N.length := by have := congrArg List.length S.pre; rw [List.length_take] at this; omega
  obtain ⟨h1, tk, rfl, hk⟩ := x.done
  have noA : ∀ b : Addr, b ∉ (cxOf CX P w K mg base N qual scope f cd A outer s H E).ex := fun b z => absurd (show b ∈ ([] : List Addr) from z) (by simp)
  refine ⟨⟨e0.mod, S.kind, rfl, rfl, Nat.le_refl _, fun y z c h1 h2 => ?_, fun y hy => ?_, fun y c _ h => ?_, fun _ => hd, Around.frames_deeper e0.frames, .inr ⟨rfl, rfl⟩, fun b z => absurd z (noA b), e0.bs, e0.bsz, fun b _ _ => noA b, fun b z => absurd z (noA b), e0.funs, e0.frf⟩,
    rfl, e0.bare, Un.kept hk, ⟨_, x.toInCall.ns, fun i y v h1 h2 h3 => ?_⟩, fun y c h => ⟨_, x.cell y c h⟩, e0.hok.fresh (Nat.le_refl _), fun y c h => ?_, fun p hp => absurd (show p ∈ ([] : List (Addr × Obj)) from hp) (by simp), e0.hok.kept hk, ?_⟩
  · exact name_of_addr x.apart (PySem.mem_of_lookup h1) (PySem.mem_of_lookup h2)
  · have hy : scope.names.lookup y = some .cell ∨ scope.names.lookup y = some .free := hy
    rcases hy with hy | hy
    · exact cell_has hy
    · exact absurd rfl (S.nofree _ (PySem.mem_of_lookup hy))
  · exact Nat.le_of_lt (x.above y c (PySem.mem_of_lookup h))
  · have hi : i < vs.length := by
      unfold start at h2
      by_cases hi : i < vs.length
      · exact hi
      · rw [List.getElem?_append_right (by simpa using hi)] at h2
        rw [List.getElem?_replicate] at h2
        split at h2 <;> cases h2
    have ha : vs[i]? = some v := by
      unfold start at h2
      rw [List.getElem?_append_left (by simpa using hi), List.getElem?_map] at h2
      cases e : vs[i]? with
      | none => rw [e] at h2; cases h2
      | some a => rw [e] at h2; cases h2; rfl
    obtain ⟨u, hu, rv⟩ := r.get ha
    have hp : ps[i]? = some y := by
      rw [← S.pre, List.getElem?_take_of_lt (by omega)]; exact h1
    have ndP : ps.Nodup := by rw [← S.pre]; exact S.nd.sublist (List.take_sublist _ _)
    refine ⟨u, rv, ?_⟩
    rcases S.par y (List.mem_of_getElem? hp) with k | k
    · exact .inl ⟨k, bindL_get ndP hp hu k⟩
    · obtain ⟨c, e⟩ := cell_has (n := s.heap.objs.size + 1) k
      refine .inr ⟨.inl k, c, e, ?_⟩
      have q := x.cell y c e
      rw [bindC_get ndP hp hu (by show scope.names.lookup y ≠ _; rw [k]; decide)] at q
      exact q
  · exact e0.hok.fresh (Nat.le_of_lt (x.above y c (PySem.mem_of_lookup h)))
  · unfold start
    show _ = N.length
    rw [List.length_append, List.length_map, List.length_replicate]
    omega

/-- THE RULE: a def (or a method) of the text, by its body. The body's reading t is chosen for each entry; it is run at the parameters' values -/
theorem fn_of {CX : CXT} {P : Program} {w : World} {K : PySem.W.Frag} {mg : Str → Option Value} {base : Heap} {k : Nat} {f : Addr} {name qual : Str} {params : Arguments} {body : List Stmt} {scope : Scope} {dV kV doc pm cdv ct oc : Value} {an od : Option Addr}
    {osl : Array (Option Value)} {N ps : List Str} {sp : Sp} (lk : K.lookup f = some ⟨oc, od, .func (PySem.W.fnOf name qual params body scope dV kV doc pm an cdv ct), osl⟩) (hcd : PySem.W.codeIn K cdv qual = true) (S : FnScope N ps scope)
    (len : ∀ vs H Q E, sp vs H Q E → vs.length = ps.length)
    (hbody : ∀ (A : Around) (outer : List Env) (s : Shared) (H : Hp) (vs : List V) (Q : VK) (E : XK), Room k (A.deeper (envOfC qual scope s.heap.objs.size f cdv)) → sp vs H Q E →
      ∃ t, PSs (cxOf CX P w K mg base N qual scope f cdv A outer s H E) body t ∧ t { nx := fun _ H' => Q .non H', rt := Q } (start N vs) H) :
    FnOk P w K mg base CX (k + 1) f (PySem.W.fnOf name qual params body scope dV kV doc pm an cdv ct) ps sp := by
  refine ⟨len, fun A outer s H args us vs Q E hr e0 hb r hsp => ?_⟩
  have hl := len _ _ _ _ hsp
  have KX : K.In s.heap := e0.mod.kin.keeps fun b o e => (e0.bs b o e).1
  have lim : s.heap.NoLimit := e0.mod.nolimit.keeps fun b o e => (e0.bs b o e).1
  have hkind : ∀ y ∈ ps.zip us, scope.names.lookup y.1 = some .local ∨ (scope.names.lookup y.1 = some .cell ∧ ((cellsFrom (s.heap.objs.size + 1) scope.names []).lookup y.1).isSome = true) := fun ⟨n, v⟩ hy => by
    rcases S.par n (List.of_mem_zip hy).1 with q | q
    · exact .inl q
    · exact .inr ⟨q, PySem.W.cellsFrom_some _ _ _ (.inl q)⟩
  refine codeAny_call_function hr.depth (KX _ _ lk) rfl S.co S.gen rfl (PySem.W.codeRec_of KX hcd) (hb _ _ _ _ ?_)
  refine wpAny_newFunctionEnv_cells S.kind hkind fun env he s1 x => ?_
  subst he
  refine ⟨lim.keeps x.toInCall.keep, codeAny_func ?_⟩
  obtain ⟨t, ht, hq⟩ := hbody A outer s H vs Q E (hr.deeper _) hsp
  have I : Inv (cxOf CX P w K mg base N qual scope f cdv A outer s H E) [] (start N vs) H s1 := inv_start S hr.hd e0 hl r x
  refine wpAny_mono (ht [] s1 (start N vs) H _ I hq) (fun fl s' hs => ?_) fun e s' hs => hs
  have fin : ∀ {σ' : St} {H' : Hp} {v : V} {u : Value}, Inv (cxOf CX P w K mg base N qual scope f cdv A outer s H E) [] σ' H' s' → RelV v u → Q v H' → CE outer P w H s Q u s' :=
    fun {σ' H' v u} J rv q => ⟨v, H', J.os, J.bare, J.base, J.hok, rv, q⟩
  cases fl with
  | ret u =>
    obtain ⟨v, σ', H', J, rv, q⟩ := hs
    exact fin J rv q
  | next =>
    obtain ⟨σ', H', J, q⟩ := hs
    exact fin (v := V.non) (u := Value.none) J rfl q
  | brk =>
    obtain ⟨_, _, _, q⟩ := hs
    exact False.elim q
  | cont =>
    obtain ⟨_, _, _, q⟩ := hs
    exact False.elim q
end L2

namespace L2
open PySem PySem.Spec PyProof.Rows
section
variable {X : Cx} {x : Str} {p pos : Pos} {e : Expr} {es : List Expr} {t : TA} {id T : String} {r : List V → Hp → VK → Prop}

def tCB (r : List V → Hp → VK → Prop) (t : TA) : TE := fun σ H Q => t σ H fun vs H1 => r vs H1 Q
/-- f(e, ..), f a built-in function -/
theorem pe_callB (hc : CallR X (.builtin id) r) (hg : Gl X x) (hm : X.mg x = none) (hv : bootBuiltins x = some (.builtin id)) (ha : PA X (e :: es) t) (hn : x ≠ "__name__" := by decide) (hdb : (x == ("__debug__" : Str)) = false := by decide)
    (he : starEach (e :: es) X.env = (false, eval e X.env) :: starEach es X.env := by rfl) (hpl : (backTo pos (starEach es X.env)).any (·.1) = false := by rfl) : PE X (.Call (.Name x p) (e :: es) [] pos) (tCB r t) := by
  intro pins s σ H Q I h
  refine wpAny_Call_Name_kw (ld_blt I hg hm hv ?_ hn hdb)
  exact PyProof.Rows.callWith_builtin1 (thn (ha pos pins s σ H _ I h) fun us s1 ⟨vs, H1, I1, r1, q1⟩ => hc pins s1 σ H1 vs us Q I1 r1 q1) he hpl
/-- T(e, ..), T a built-in type -/
theorem pe_callTy (hc : CallR X (.type T) r) (hg : Gl X x) (hm : X.mg x = none) (hv : bootBuiltins x = some (.type T)) (ha : PA X (e :: es) t) (hn : x ≠ "__name__" := by decide) (hdb : (x == ("__debug__" : Str)) = false := by decide)
    (he : starEach (e :: es) X.env = (false, eval e X.env) :: starEach es X.env := by rfl) (hpl : (backTo pos (starEach es X.env)).any (·.1) = false := by rfl) : PE X (.Call (.Name x p) (e :: es) [] pos) (tCB r t) := by
  intro pins s σ H Q I h
  refine wpAny_Call_Name_kw (ld_blt I hg hm hv ?_ hn hdb)
  exact PyProof.Rows.callWith_type1 (thn (ha pos pins s σ H _ I h) fun us s1 ⟨vs, H1, I1, r1, q1⟩ => hc pins s1 σ H1 vs us Q I1 r1 q1) he hpl
end
end L2

namespace HT
open PySem PyProof.Rows

/-- t < u of tuples of ints -/
def lexLt : List Int → List Int → Bool
  | [], [] => false
  | [], _ :: _ => true
  | _ :: _, [] => false
  | x :: xs, y :: ys => if x = y then lexLt xs ys else decide (x < y)
theorem lexLt_cons (x y : Int) (xs ys : List Int) : lexLt (x :: xs) (y :: ys) = if x = y then lexLt xs ys else decide (x < y) := rfl
theorem lexLt_nil_nil : lexLt [] [] = false := rfl
theorem lexLt_nil_cons (y : Int) (ys : List Int) : lexLt [] (y :: ys) = true := rfl
theorem lexLt_cons_nil (x : Int) (xs : List Int) : lexLt (x :: xs) [] = false := rfl

theorem eqAt_int (A : Around) (s : Shared) (a : Int) (t : Tok) (c : Int) (u : Tok) : ∃ e, SeqAt.EqAt A s (.int a t) (.int c u) e ∧ (e = true ↔ a = c) :=
  ⟨(a == c), SeqAt.EqAt.int_int a t c u, by simp⟩
theorem rcLt_int (A : Around) (s : Shared) (a : Int) (t : Tok) (c : Int) (u : Tok) (prog : Program) (w : World) (E : Value → Shared → Prop) (Q : Value → Shared → Prop) (h : Q (.bool (decide (a < c))) s) :
    wpAny (model prog w) A (richCompare .Lt (.int a t) (.int c u)) Q E s :=
  (PyProof.Rows.lt_int h : wpAny (model prog w) A (compareOp .Lt (.int a t) (.int c u)) Q E s)

section
open PySem.SeqAt
open PySem.AutoSeq1 (wpAny_loadPart')
open PySem.MeetsSeq PySem.MeetsSeq2 PySem.MeetsSeq3

theorem tuple_lt_ints (l b : Addr) (items items2 : Array Value) (n n2 : Nat) (dd dd2 : Option Addr) (sl sl2 : Array (Option Value)) (ns ms : List Int) (hi : IntsAre items.toList ns) (hj : IntsAre items2.toList ms) :
    Meets (Builtin.«tuple.__lt__» ⟨[.ref l, .ref b], []⟩)
      (fun _ R s => s.heap.get? l = some { cls := .type "tuple", dict := dd, data := .seq items n, slots := sl } ∧ s.heap.get? b = some { cls := .type "tuple", dict := dd2, data := .seq items2 n2, slots := sl2 } ∧
        R (.ok (.ret (.bool (lexLt ns ms)))) s) :=
  .of_wp fun prog w A R s h => by
    obtain ⟨hp, g, d, tk, os⟩ := s; obtain ⟨hl, hb, h⟩ := h
    have f2 := AutoSeq1.sub_tuple_tuple
    have z1 : items.size = ns.length := by rw [← hi.length]; simp
    have z2 : items2.size = ms.length := by rw [← hj.length]; simp
    wp_walk using wpAny_loadPart' hl, wpAny_loadPart' hb, wpAny_forIn_list _ (fun rest b s' => b.1 = none ∧ s' = ⟨hp, g, d, tk, os⟩ ∧ ∃ (vs ws : List Value) (ns' ms' : List Int), rest = vs.zip ws ∧
      IntsAre vs ns' ∧ IntsAre ws ms' ∧ ns'.length + items2.size = ms'.length + items.size ∧ R (.ok (.ret (.bool (lexLt ns' ms')))) ⟨hp, g, d, tk, os⟩) _
    case turn =>
      rintro ⟨y, x⟩ rest b s' ⟨hb', rfl, vs, ws, ns', ms', hz, hvi, hwi, hlen, hR⟩
      cases hvi with
      | nil => rw [List.zip_nil_left] at hz; cases hz
      | cons a t hvi' =>
        cases hwi with
        | nil => rw [List.zip_nil_right] at hz; cases hz
        | cons c u hwi' =>
          rw [List.zip_cons_cons] at hz
          injection hz with hyx hrest
          injection hyx with hy hx
          subst hy hx
          rw [lexLt_cons] at hR
          simp only [List.length_cons] at hlen
          obtain ⟨e, he, hiff⟩ := eqAt_int A.in1 ⟨hp, g, d, tk, os⟩ a t c u
          refine wpAny_bind (he prog w _ _ ?_)
          cases e with
          | true =>
            rw [if_pos (hiff.mp rfl)] at hR
            wp_walk
            exact ⟨rfl, rfl, _, _, _, _, hrest, hvi', hwi', by omega, hR⟩
          | false =>
            rw [if_neg (fun q => absurd (hiff.mpr q) Bool.false_ne_true)] at hR
            have hri := rcLt_int A.in1 ⟨hp, g, d, tk, os⟩ a t c u prog w
            wp_walk using hri
            exact ⟨_, rfl, by simpa using hR⟩
    case fin =>
      rintro ⟨b1, b2⟩ s' ⟨hb', rfl, vs, ws, ns', ms', hz, hvi, hwi, hlen, hR⟩
      simp only at hb'
      subst hb'
      have hv : lexLt ns' ms' = decide (items.size < items2.size) := by
        cases hvi with
        | nil =>
          cases hwi with
          | nil =>
            simp only [List.length_nil] at hlen
            rw [lexLt_nil_nil]
            exact (decide_eq_false (by omega)).symm
          | cons c u hw =>
            simp only [List.length_nil, List.length_cons] at hlen
            rw [lexLt_nil_cons]
            exact (decide_eq_true (by omega)).symm
        | cons a t hv =>
          cases hwi with
          | nil =>
            simp only [List.length_nil, List.length_cons] at hlen
            rw [lexLt_cons_nil]
            exact (decide_eq_false (by omega)).symm
          | cons c u hw =>
            rw [List.zip_cons_cons] at hz
            cases hz
      rw [hv] at hR
      wp_walk
      exact ⟨_, rfl, by simpa [Builtin.Tuple.tupleCompareSizes] using hR⟩
    case h =>
      exact ⟨rfl, rfl, items.toList, items2.toList, ns, ms, rfl, hi, hj, by omega, h⟩
end

section
variable {prog : Program} {w : World} {A : Around} {E : Value → Shared → Prop} {s : Shared}

theorem lt_tupInts {l b : Addr} {items items2 : Array Value} {ns ms : List Int} {Q : Value → Shared → Prop} (hl : IsTup s.heap l items) (hb : IsTup s.heap b items2) (hi : IntsAre items.toList ns) (hj : IntsAre items2.toList ms)
    (hu : A.units < cLine) (h : Q (.bool (lexLt ns ms)) s) : wpAny (model prog w) A (compareOp .Lt (.ref l) (.ref b)) Q E s := by
  obtain ⟨⟨cls, dd, data, sl⟩, ho, hc, n, hd⟩ := id hl
  obtain ⟨⟨cls2, dd2, data2, sl2⟩, ho2, hc2, n2, hd2⟩ := id hb
  simp only at hc hd hc2 hd2
  subst hc hd hc2 hd2
  exact richCompare_meets_room (op := .Lt) ⟨_, ho, rfl⟩ ⟨_, ho2, rfl⟩ PySem.F.slot_tuple_lt PySem.F.entry_tuple_lt (PySem.F.args_tuple_lt_2 _ _) (tuple_lt_ints l b items items2 n n2 dd dd2 sl sl2 ns ms hi hj)
    ⟨ho, ho2, show Value.bool (lexLt ns ms) ≠ Value.notImplemented ∧ Q (.bool (lexLt ns ms)) s from ⟨(fun x => nomatch x), h⟩⟩ hu


/-! ### t[a:b], not the whole -/
/-- a slice's bound as a place among n (d where it is left out) -/
def sIx (n d : Nat) : Option Int → Nat
  | none => d
  | some v => if v < 0 then (v + (n : Int)).toNat else min v.toNat n
theorem sIx_nat (n d k : Nat) : sIx n d (some (k : Int)) = min k n := by
  show (if (k : Int) < 0 then ((k : Int) + (n : Int)).toNat else min (k : Int).toNat n) = min k n
  rw [if_neg (by omega), Int.toNat_natCast]
theorem sIx_le (n d : Nat) (hd : d ≤ n) (o : Option Int) : sIx n d o ≤ n := by
  cases o with
  | none => exact hd
  | some v =>
    show (if v < 0 then (v + (n : Int)).toNat else min v.toNat n) ≤ n
    by_cases hv : v < 0
    · rw [if_pos hv]; omega
    · rw [if_neg hv]; exact Nat.min_le_right _ _
theorem clip_eq (v : Int) (n d : Nat) : (if v < 0 then max (v + (n : Int)) 0 else min v (n : Int)) = ((sIx n d (some v) : Nat) : Int) := by
  show (if v < 0 then max (v + (n : Int)) 0 else min v (n : Int)) = (((if v < 0 then (v + (n : Int)).toNat else min v.toNat n) : Nat) : Int)
  by_cases hv : v < 0
  · simp only [if_pos hv]; omega
  · simp only [if_neg hv]; omega
theorem adjust_gen (lo hi : Option Int) (n : Nat) : Builtin.Slice.sliceAdjust lo hi 1 (n : Int) = (((sIx n 0 lo : Nat) : Int), ((sIx n n hi : Nat) : Int)) := by
  have h1 : ¬ ((1 : Int) < 0) := by omega
  unfold Builtin.Slice.sliceAdjust
  simp only [h1, if_false]
  refine Prod.ext ?_ ?_
  · cases lo with
    | none => rfl
    | some v => exact clip_eq v n 0
  · cases hi with
    | none => rfl
    | some v => exact clip_eq v n n
theorem places_gen (i j : Nat) : Builtin.Slice.slicePlaces (i : Int) (j : Int) 1 = j - i := by
  unfold Builtin.Slice.slicePlaces
  have h1 : (1 : Int) > 0 := by omega
  simp only [h1, if_true, Int.ediv_one]
  split <;> omega
theorem slicePart_ {v : Value} {o : Option Int} {Q : Option Int → Shared → Prop} (p : IsPart v o) (h : Q o s) : wpAny (model prog w) A (Builtin.Slice.slicePartIndex v) Q E s := by
  cases p with
  | none => exact slicePart_none h
  | int i t => exact slicePart_int h
theorem sliceApplied_gen {sl : Addr} {vl vu : Value} {lo hi : Option Int} {n : Nat} {Q : Int × Int × Nat → Shared → Prop} (hs : s.heap.IsSliceOf sl vl vu .none) (pl : IsPart vl lo) (pu : IsPart vu hi)
    (h : Q (((sIx n 0 lo : Nat) : Int), 1, sIx n n hi - sIx n 0 lo) s) : wpAny (model prog w) A (Builtin.Slice.sliceApplied (.ref sl) (pure (n : Int))) Q E s := by
  obtain ⟨os, hos, hcs, hds⟩ := id hs
  unfold Builtin.Slice.sliceApplied Builtin.Slice.sliceFields
  refine wpAny_bind (wpAny_bind (wpAny_field hos hds (x := vl) rfl (wpAny_bind (wpAny_field hos hds (x := vu) rfl (wpAny_bind (wpAny_field hos hds (x := .none) rfl (wpAny_pure ?_)))))))
  refine wpAny_bind (slicePart_none ?_)
  show wpAny _ _ (if ((1 : Int) == 0) = true then _ else _) _ _ s
  rw [if_neg (by decide)]
  refine wpAny_bind (slicePart_ pl (wpAny_bind (slicePart_ pu (wpAny_bind (wpAny_pure ?_)))))
  show wpAny _ _ (match Builtin.Slice.sliceAdjust lo hi 1 (n : Int) with | (lo, hi) => pure (lo, (1 : Int), Builtin.Slice.slicePlaces lo hi 1)) _ _ s
  rw [adjust_gen lo hi n]
  show wpAny _ _ (pure (((sIx n 0 lo : Nat) : Int), (1 : Int), Builtin.Slice.slicePlaces ((sIx n 0 lo : Nat) : Int) ((sIx n n hi : Nat) : Int) 1)) _ _ s
  rw [places_gen]
  exact wpAny_pure h
theorem pick_gen (xs : Array Value) (i k : Nat) : ((List.range k).filterMap fun (m : Nat) => xs[((i : Int) + (m : Int) * 1).toNat]?).toArray = ((xs.toList.drop i).take k).toArray := by
  have e : (fun (m : Nat) => xs[((i : Int) + (m : Int) * 1).toNat]?) = fun m => xs[i + m]? := by
    funext m
    have : ((i : Int) + (m : Int) * 1).toNat = i + m := by omega
    rw [this]
  rw [e]
  have := pick_run xs i k
  rw [List.filterMap_map] at this
  have e2 : ((fun x => xs[x]?) ∘ fun x => i + x) = fun m => xs[i + m]? := rfl
  rw [e2] at this
  rw [this]

theorem getItem_tuple_cut {t sl : Addr} {items : Array Value} {vl vu : Value} {lo hi : Option Int} {Q : Value → Shared → Prop} (ht : IsTup s.heap t items) (hs : s.heap.IsSliceOf sl vl vu .none) (pl : IsPart vl lo) (pu : IsPart vu hi)
    (hw : ¬ (sIx items.size 0 lo = 0 ∧ sIx items.size items.size hi = items.size))
    (h : Q (.ref s.heap.objs.size) { s with heap := s.heap.push { cls := .type "tuple", data := .seq ((items.toList.drop (sIx items.size 0 lo)).take (sIx items.size items.size hi - sIx items.size 0 lo)).toArray } })
    (hsz : items.size ≤ sizeLine) : wpAny (model prog w) A (getItem (.ref t) (.ref sl)) Q E s := by
  have htake : sizeOk (.seq ((items.toList.drop (sIx items.size 0 lo)).take (sIx items.size items.size hi - sIx items.size 0 lo)).toArray) := by
    show ((items.toList.drop (sIx items.size 0 lo)).take (sIx items.size items.size hi - sIx items.size 0 lo)).toArray.size ≤ sizeLine
    rw [List.size_toArray, List.length_take, List.length_drop, Array.length_toList]
    omega
  have hj : sIx items.size items.size hi ≤ items.size := sIx_le _ _ (Nat.le_refl _) hi
  obtain ⟨os, hos, hcs, hds⟩ := id hs
  have hTs : s.TypeIs (.ref sl) "slice" := ⟨os, hos, hcs⟩
  unfold getItem
  try with_reducible refine wpAny_holding ?_
  first | refine wpAny_bind (wpAny_pure ?_) | skip
  refine wpAny_bind (wpAny_sequenceKey ht.typeIs (by decide) ?_)
  refine wpAny_bind (wpAny_callSpecial?_slot (name := Str.ofString "__getitem__") ht.typeIs PyProof.Rows.slot_tuple_getitem
    (wpAny_call_entry PyProof.Rows.slot_tuple_getitem ht.typeIs entry_tuple_getitem ?_ (args_tuple_getitem _ _)))
  show wpAny _ _ (Builtin.Tuple.tupleItemsOf (.ref t) >>= _) _ _ s
  refine wpAny_bind (tupleItemsOf_ ht ?_)
  refine wpAny_bind (wpAny_typeOf hTs ?_)
  rw [if_pos (by decide)]
  refine wpAny_bind (sliceApplied_gen hs pl pu ?_)
  have hno : ¬ ((((sIx items.size 0 lo : Nat) : Int) == 0 && (1 : Int) == 1 && (sIx items.size items.size hi - sIx items.size 0 lo) == items.size) = true) := by
    intro q
    rw [Bool.and_eq_true, Bool.and_eq_true] at q
    have q1 : ((sIx items.size 0 lo : Nat) : Int) = 0 := eq_of_beq q.1.1
    have q2 : sIx items.size items.size hi - sIx items.size 0 lo = items.size := eq_of_beq q.2
    exact hw ⟨by omega, by omega⟩
  show wpAny _ _ (if (((sIx items.size 0 lo : Nat) : Int) == 0 && (1 : Int) == 1 && (sIx items.size items.size hi - sIx items.size 0 lo) == items.size) = true then _ else _) _ _ s
  rw [if_neg hno, pick_gen]
  first
    | exact wpAny_bind (m := Builtin.Tuple.tupleExact _) (wpAny_newObj_type (wpAny_pure ⟨_, rfl, wpAny_pure h⟩) htake)
    | exact wpAny_bind (m := Builtin.Tuple.tupleExact _) (wpAny_newObj_type (wpAny_bind (wpAny_pure (wpAny_pure ⟨_, rfl, wpAny_pure h⟩))) htake)
    | exact wpAny_bind (wpAny_bind (m := Builtin.Tuple.tupleExact _) (wpAny_newObj_type (wpAny_pure (wpAny_pure ⟨_, rfl, wpAny_pure h⟩)) htake))
    | exact wpAny_bind (wpAny_bind (m := Builtin.Tuple.tupleExact _) (wpAny_newObj_type (wpAny_pure ⟨_, rfl, wpAny_pure h⟩) htake))
end
end HT

namespace L2
open PySem PySem.Spec PyProof.Rows

/-! ### the parts of a slice -/
abbrev TO := St → Hp → (Option Int → Hp → Prop) → Prop
/-- a slice's part (left out, or an int) -/
def PO (X : Cx) (e : Option Expr) (t : TO) : Prop :=
  ∀ (pins : List (Addr × Obj)) (s : Shared) (σ : St) (H : Hp) (Q : Option Int → Hp → Prop), Inv X pins σ H s → t σ H Q →
    wpAny (model X.prog X.w) X.A (evalPart e X.env) (fun u s' => ∃ o H', Inv X pins σ H' s' ∧ IsPart u o ∧ Q o H') X.xe s
def tPart (t : TE) : TO := fun σ H Q => t σ H fun x H1 => ∃ i, x = .int i ∧ Q (some i) H1


section
variable {X : Cx} {e : Expr} {te : TE} {lo hi : Option Expr} {tl th : TO} {pos p2 : Pos}

theorem po_some (h : PE X e te) : PO X (some e) (tPart te) := by
  intro pins s σ H Q I hw
  rw [evalPart_some]
  refine thn (h pins s σ H _ I hw) fun u s1 ⟨x, H1, I1, r1, q1⟩ => ?_
  obtain ⟨i, rfl, q⟩ := q1
  obtain ⟨t, rfl⟩ := r1
  exact ⟨some i, H1, I1, .int i t, q⟩

/-- what a slice of a value is, by values: the slice object stands at sl -/
def SlR (X : Cx) (r : V → Option Int → Option Int → Hp → VK → Prop) : Prop :=
  ∀ (pins : List (Addr × Obj)) (s : Shared) (σ : St) (H : Hp) (x : V) (v vl vu : Value) (lo hi : Option Int) (sl : Addr) (Q : VK), Inv X pins σ H s → RelV x v → s.heap.IsSliceOf sl vl vu .none → IsPart vl lo → IsPart vu hi → r x lo hi H Q →
    ∃ T id, typeLookup (.type T) "__getitem__" = pure (some (.builtin id)) ∧ s.TypeIs v T ∧ wpAny (model X.prog X.w) X.A (getItem v (.ref sl)) (EP X pins σ Q) X.xe s
def tSl (r : V → Option Int → Option Int → Hp → VK → Prop) (te : TE) (tl th : TO) : TE := fun σ H Q => te σ H fun x H1 => tl σ H1 fun l H2 => th σ H2 fun u H3 => r x l u H3 Q
/-- a[lo:hi], any a -/
theorem pe_slice {r : V → Option Int → Option Int → Hp → VK → Prop} (hr : SlR X r) (he : PE X e te) (hl : PO X lo tl) (hu : PO X hi th) : PE X (.Subscript e (.Slice lo hi none p2) pos) (tSl r te tl th) := by
  intro pins s σ H Q I h
  refine Subscript_ (thn (he pins s σ H _ I h) fun v s1 ⟨x, H1, I1, r1, q1⟩ => ?_)
  refine wpAny_Slice (thn (hl pins s1 σ H1 _ I1 q1) fun vl s2 ⟨l, H2, I2, pl, q2⟩ => thn (hu pins s2 σ H2 _ I2 q2) fun vu s3 ⟨u, H3, I3, pu, q3⟩ => ?_)
  rw [evalPart_none]
  refine wpAny_pure ?_
  have I4 : Inv X pins σ H3 { s3 with heap := s3.heap.push { cls := .type "slice", data := .fields #[vl, vu, .none] } } := I3.kept (t' := s3.toks) fun b ob q => Heap.get?_push_of_some _ q
  obtain ⟨T, id, hT, ht, hg⟩ := hr pins { s3 with heap := s3.heap.push { cls := .type "slice", data := .fields #[vl, vu, .none] } } σ H3 x v vl vu l u s3.heap.objs.size Q I4 r1 (Heap.IsSliceOf.new ..) pl pu q3
  show wpAny (model X.prog X.w) X.A (subscriptTail e (.Slice lo hi none p2) v (.ref s3.heap.objs.size)) (EP X pins σ Q) X.xe { s3 with heap := s3.heap.push { cls := .type "slice", data := .fields #[vl, vu, .none] } }
  exact tail_any (ops := [.ref s3.heap.objs.size, v]) ht hT hg (by with_unfolding_all rfl)

/-- the items of xs[lo:hi] -/
def cutV (xs : List V) (lo hi : Option Int) : List V := (xs.drop (HT.sIx xs.length 0 lo)).take (HT.sIx xs.length xs.length hi - HT.sIx xs.length 0 lo)
theorem cutV_length (xs : List V) (lo hi : Option Int) : (cutV xs lo hi).length ≤ xs.length := by
  unfold cutV
  rw [List.length_take, List.length_drop]
  omega
/-- t[lo:hi], not the whole of it (the whole would be t itself) -/
def rSlT (K : PySem.W.Frag) : V → Option Int → Option Int → Hp → VK → Prop := fun x lo hi H Q => ∃ a xs, x = .ref a ∧ SqT K H a xs ∧
  ¬ (HT.sIx xs.length 0 lo = 0 ∧ HT.sIx xs.length xs.length hi = xs.length) ∧ ∀ p, H p = none → Q (.ref p) (upd H p (.tup (cutV xs lo hi)))
theorem sl_tup : SlR X (rSlT X.K) := by
  intro pins s σ H x v vl vu lo hi sl Q I rx hs pl pu h
  obtain ⟨a, xs, rfl, hx, hw, q⟩ := h
  cases rx
  obtain ⟨its, r, ht, hz⟩ := I.tuple hx
  have hlen : its.toArray.size = xs.length := by rw [List.size_toArray]; exact r.length.symm
  refine ⟨"tuple", _, PyProof.Rows.slot_tuple_getitem.lookup, ht.typeIs, ?_⟩
  refine HT.getItem_tuple_cut ht hs pl pu (by rw [hlen]; exact hw) ?_ (by rw [hlen]; exact hz)
  rw [hlen]
  refine ⟨.ref s.heap.objs.size, _, I.laid (t' := s.toks) (o := .tup (cutV xs lo hi)) (fun b ob q => Heap.get?_push_of_some _ q) (Nat.le_refl _) ?_, rfl, q _ (I.hok.fresh (Nat.le_refl _))⟩
  exact ⟨Nat.le_trans (cutV_length xs lo hi) hz, _, (r.drop (HT.sIx xs.length 0 lo)).take (HT.sIx xs.length xs.length hi - HT.sIx xs.length 0 lo), IsTup.new _ _⟩

/-! ### t < u, t + u -/
end
end L2

namespace L2
open PySem PySem.Spec PyProof.Rows

/-! ### places -/
/-- the place that an index of any sign means -/
def ixN (n : Nat) (i : Int) : Option Nat := if 0 ≤ i then (if i < n then some i.toNat else none) else if -(n : Int) ≤ i then some (i + n).toNat else none
def atI {α : Type} (xs : List α) (i : Int) : Option α := (ixN xs.length i).bind fun j => xs[j]?
theorem ixN_seq {n : Nat} {i : Int} {j : Nat} (h : ixN n i = some j) : seqIndex? i n = some j ∧ j < n ∧ -(n : Int) ≤ i ∧ i < n := by
  unfold ixN at h
  by_cases h0 : 0 ≤ i
  · rw [if_pos h0] at h
    by_cases h1 : i < n
    · rw [if_pos h1] at h
      have e : i.toNat = j := Option.some.inj h
      exact ⟨by rw [seqIndex_of h0 h1, e], by omega, by omega, h1⟩
    · rw [if_neg h1] at h; cases h
  · rw [if_neg h0] at h
    by_cases h1 : -(n : Int) ≤ i
    · rw [if_pos h1] at h
      have e : (i + n).toNat = j := Option.some.inj h
      exact ⟨by rw [seqIndex_neg (by omega) h1, e], by omega, h1, by omega⟩
    · rw [if_neg h1] at h; cases h
theorem atI_get {α : Type} {xs : List α} {i : Int} {v : α} (h : atI xs i = some v) : ∃ j, seqIndex? i xs.length = some j ∧ xs[j]? = some v ∧ j < xs.length ∧ -(xs.length : Int) ≤ i ∧ i < xs.length := by
  unfold atI at h
  cases e : ixN xs.length i with
  | none => rw [e] at h; cases h
  | some j =>
    rw [e] at h
    obtain ⟨h1, h2, h3, h4⟩ := ixN_seq e
    exact ⟨j, h1, h, h2, h3, h4⟩
theorem atI_nat {α : Type} {xs : List α} {j : Nat} {v : α} (h : xs[j]? = some v) : atI xs (j : Int) = some v := by
  have hj : j < xs.length := (List.getElem?_eq_some_iff.mp h).1
  have e : ixN xs.length (j : Int) = some j := by
    unfold ixN
    rw [if_pos (by omega), if_pos (by omega)]; simp
  unfold atI; rw [e]; exact h

/-! ### what may be subscripted -/
/-- what stands as an index of a plain subscript -/
def PlainIx (b : Expr) : Prop := ∀ o i, subscripted b false o i = operate [o, i] (getItem o i)
/-- a subscript by values -/
def IxR (X : Cx) (r : R2) : Prop :=
  ∀ (value slice : Expr) (pins : List (Addr × Obj)) (s : Shared) (σ : St) (H : Hp) (x y : V) (v u : Value) (Q : VK), Inv X pins σ H s → RelV x v → RelV y u → r x y H Q →
    subscripted slice false v u = operate [v, u] (getItem v u) → wpAny (model X.prog X.w) X.A (subscriptTail value slice v u) (EP X pins σ Q) X.xe s
/-- a call of a builtin's method by values: the receiver, the arguments -/
def MtR (X : Cx) (id : String) (r : V → List V → Hp → VK → Prop) : Prop :=
  ∀ (pins : List (Addr × Obj)) (s : Shared) (σ : St) (H : Hp) (x : V) (xs : List V) (v : Value) (us : List Value) (Q : VK), Inv X pins σ H s → RelV x v → Vals xs us → r x xs H Q →
    wpAny (model X.prog X.w) X.A (call (.builtin id) (v :: us)) (EP X pins σ Q) X.xe s
section
variable {X : Cx} {a b : Expr} {ta tb : TE} {pos : Pos}
/-- a[b] -/
theorem pe_ix {r : R2} (hr : IxR X r) (ha : PE X a ta) (hb : PE X b tb) (hs : PlainIx b) : PE X (.Subscript a b pos) (tOp r ta tb) := by
  intro pins s σ H Q I h
  exact Subscript_ (binT ha hb I h fun v u s2 x y H2 I2 rx ry q => hr a b pins s2 σ H2 x y v u Q I2 rx ry q (hs _ _))

def rIxL (K : PySem.W.Frag) : R2 := fun x y H Q => ∃ p xs i v, x = .ref p ∧ y = .int i ∧ SqL K H p xs ∧ atI xs i = some v ∧ Q v H
theorem ix_list : IxR X (rIxL X.K) := by
  intro value slice pins s σ H x y v u Q I rx ry h hs
  obtain ⟨p, xs, i, z, rfl, rfl, hq, he, q⟩ := h
  cases rx
  obtain ⟨t, rfl⟩ := ry
  obtain ⟨its, r, pl, hz⟩ := I.list hq
  obtain ⟨j, h1, h2, h3, h4, h5⟩ := atI_get he
  obtain ⟨w, ew, rw'⟩ := r.get h2
  have hl := r.length
  have hn := line63
  have fin : EP X pins σ Q w s := ⟨z, H, I, rw', q⟩
  by_cases h0 : 0 ≤ i
  · have hj : i.toNat = j := by
      rw [seqIndex_of h0 h5] at h1
      exact Option.some.inj h1
    exact item_listR pl.isList h0 (by omega) (by rw [hj]; simpa using ew) fin hs
  · have hj : (i + (its.toArray.size : Int)).toNat = j := by
      rw [seqIndex_neg (by omega) h4] at h1
      rw [List.size_toArray, ← hl]
      exact Option.some.inj h1
    exact subscriptTail_builtinR (x := w) pl.isList.typeIs slot_list_getitem.lookup
      (wpAny_getItem_list_neg (Q := fun r s' => r = w ∧ EP X pins σ Q r s') pl.isList (by omega) (by rw [List.size_toArray] <;> omega) (by omega) (by rw [hj]; simpa using ew) ⟨rfl, fin⟩) hs

/-! ### xs[i] = v, any sign -/
/-- the list's object behind a store -/
theorem mapSeq_set (its : List Value) (n j : Nat) (u : Value) : Obj.mapSeq (·.setIfInBounds j u) { cls := .type "list", data := .seq its.toArray n } = { cls := .type "list", data := .seq (its.set j u).toArray n } := by
  simp [Obj.mapSeq]
theorem Inv.lst {pins : List (Addr × Obj)} {σ : St} {H : Hp} {s : Shared} {p : Addr} {xs : List V} (I : Inv X pins σ H s) (h : H p = some (.lst xs)) :
    ∃ (its : List Value) (n : Nat), Vals xs its ∧ s.heap.get? p = some { cls := .type "list", data := .seq its.toArray n } ∧ xs.length ≤ sizeLine := by
  obtain ⟨z, its, n, r, e⟩ := I.hok p _ h
  exact ⟨its, n, r, e, z⟩
/-- the list at p is written by an update of its object -/
theorem Inv.lstUpd {pins : List (Addr × Obj)} {σ : St} {H : Hp} {s : Shared} {p : Addr} {xs ys : List V} {its its' : List Value} {n n' : Nat} {f : Obj → Obj} (I : Inv X pins σ H s) (h : H p = some (.lst xs))
    (ho : s.heap.get? p = some { cls := .type "list", data := .seq its.toArray n }) (hf : f { cls := .type "list", data := .seq its.toArray n } = { cls := .type "list", data := .seq its'.toArray n' }) (r : Vals ys its') (hz : ys.length ≤ sizeLine) (t : Nat) :
    Inv X pins σ (upd H p (.lst ys)) { s with heap := s.heap.update p f, toks := t } := by
  have e : (s.heap.update p f).get? p = some { cls := .type "list", data := .seq its'.toArray n' } := by
    rw [Heap.get?_update_self f ho (by rw [hf] <;> rfl), hf]
  refine I.write (x := p) (e := p) (by rw [h]; trivial) (.inl rfl) (fun b u hb q => (Heap.get?_update_other _ _ (Ne.symm hb)).trans q) ⟨_, e⟩ ?_
  exact ⟨hz, its', n', r, e⟩
def rSetL : V → V → V → Hp → (Hp → Prop) → Prop := fun o i v H Q => ∃ p xs k j, o = .ref p ∧ i = .int k ∧ H p = some (.lst xs) ∧ ixN xs.length k = some j ∧ Q (upd H p (.lst (xs.set j v)))
theorem set_list : PSet X rSetL := by
  intro pins s σ H o i v ov iv u Q I ro ri rv h
  obtain ⟨p, xs, k, j, rfl, rfl, hp, hj, q⟩ := h
  cases ro
  obtain ⟨t, rfl⟩ := ri
  obtain ⟨its, n, r, ho, hz⟩ := I.lst hp
  obtain ⟨h1, h2, h3, h4⟩ := ixN_seq hj
  have hl := r.length
  have hn := line63
  have I' : Inv X pins σ (upd H p (.lst (xs.set j v))) { s with heap := s.heap.update p (Obj.mapSeq (·.setIfInBounds j u)) } :=
    I.lstUpd hp ho (mapSeq_set its n j u) (r.set rv j) (by rw [List.length_set]; exact hz) s.toks
  by_cases h0 : 0 ≤ k
  · have hk : k.toNat = j := by
      rw [seqIndex_of h0 h4] at h1
      exact Option.some.inj h1
    exact PySem.W.ki_setAt ho h0 (by omega) (by rw [List.size_toArray, ← hl]; exact h4) (by rw [hk]; exact ⟨_, I', q⟩)
  · have hk : (k + (its.toArray.size : Int)).toNat = j := by
      rw [seqIndex_neg (by omega) h3] at h1
      rw [List.size_toArray, ← hl]
      exact Option.some.inj h1
    exact PySem.W.ki_setBack ho (by omega) (by rw [List.size_toArray, ← hl]; exact h3) (by omega) (by rw [hk]; exact ⟨_, I', q⟩)

/-! ### slices -/
theorem slice_bounds (lo hi : Option Int) (n : Nat) : (sliceBounds lo hi none n).1 = ((HT.sIx n 0 lo : Nat) : Int) ∧ (sliceBounds lo hi none n).2.1 = ((HT.sIx n n hi : Nat) : Int) ∧ (sliceBounds lo hi none n).2.2 = 1 := by
  refine ⟨?_, ?_, rfl⟩
  · cases lo with
    | none => simp [sliceBounds, HT.sIx]
    | some i =>
      simp only [sliceBounds, HT.sIx, Option.getD_none, show (1 : Int) > 0 by decide, if_true]
      by_cases h : i < 0
      · simp only [h, if_true] <;> omega
      · simp only [h, if_false] <;> omega
  · cases hi with
    | none => simp [sliceBounds, HT.sIx]
    | some i =>
      simp only [sliceBounds, HT.sIx, Option.getD_none, show (1 : Int) > 0 by decide, if_true]
      by_cases h : i < 0
      · simp only [h, if_true] <;> omega
      · simp only [h, if_false] <;> omega
theorem slicePick_cut (its : List Value) (lo hi : Option Int) : slicePick its.toArray lo hi none = ((its.drop (HT.sIx its.length 0 lo)).take (HT.sIx its.length its.length hi - HT.sIx its.length 0 lo)).toArray := by
  obtain ⟨h1, h2, h3⟩ := slice_bounds lo hi its.toArray.size
  unfold slicePick
  rw [h1, h2, h3]
  simp only [sliceRange_one, pick_run, List.size_toArray] <;> rfl
/-- xs[lo:hi] of a list: a new list -/
def rSlL (K : PySem.W.Frag) : V → Option Int → Option Int → Hp → VK → Prop := fun x lo hi H Q => ∃ a xs, x = .ref a ∧ SqL K H a xs ∧ ∀ p, H p = none → Q (.ref p) (upd H p (.lst (cutV xs lo hi)))
theorem sl_list : SlR X (rSlL X.K) := by
  intro pins s σ H x v vl vu lo hi sl Q I rx hs pl pu h
  obtain ⟨a, xs, rfl, hx, q⟩ := h
  cases rx
  obtain ⟨its, r, ht, hz⟩ := I.list hx
  have hlen := r.length
  refine ⟨"list", _, slot_list_getitem.lookup, ht.isList.typeIs, ?_⟩
  refine wpAny_getItem_list_slice ht.isList hs pl pu .none (by simp) ?_ (by rw [List.size_toArray] <;> omega)
  rw [slicePick_cut, ← hlen]
  refine ⟨.ref s.heap.objs.size, _, I.laid (t' := s.toks) (o := .lst (cutV xs lo hi)) (fun b ob q => Heap.get?_push_of_some _ q) (Nat.le_refl _) ?_, rfl, q _ (I.hok.fresh (Nat.le_refl _))⟩
  exact ⟨Nat.le_trans (cutV_length xs lo hi) hz, _, 0, (r.drop (HT.sIx xs.length 0 lo)).take (HT.sIx xs.length xs.length hi - HT.sIx xs.length 0 lo), Heap.get?_push_size _ rfl⟩

/-! ### in, not in: flat items -/
def flatV : V → Bool
  | .non => true
  | .bl _ => true
  | .int _ => true
  | .str _ => true
  | _ => false
/-- == of flat values -/
def eqV : V → V → Bool
  | .non, .non => true
  | .bl a, .bl b => a == b
  | .bl a, .int b => (if a then 1 else 0) == b
  | .int a, .bl b => a == (if b then 1 else 0)
  | .int a, .int b => a == b
  | .str a, .str b => a == b
  | _, _ => false
theorem eqAt_V {A : Around} {s : Shared} {y x : V} {u v : Value} (ry : RelV y u) (rx : RelV x v) (fy : flatV y = true) (fx : flatV x = true) : SeqAt.EqAt A s u v (eqV y x) := by
  cases y with
  | non =>
    cases ry
    cases x with
    | non => cases rx; exact SeqAt.EqAt.same _
    | bl b => cases rx; exact SeqAt.EqAt.none_bool b
    | int b => obtain ⟨t, rfl⟩ := rx; exact SeqAt.EqAt.none_int b t
    | str b => obtain ⟨t, rfl⟩ := rx; exact SeqAt.EqAt.none_str b t
    | _ => exact absurd (show false = true from fx) Bool.false_ne_true
  | bl a =>
    cases ry
    cases x with
    | non => cases rx; exact SeqAt.EqAt.bool_none a
    | bl b => cases rx; exact SeqAt.EqAt.bool_bool a b
    | int b => obtain ⟨t, rfl⟩ := rx; exact SeqAt.EqAt.bool_int a b t
    | str b => obtain ⟨t, rfl⟩ := rx; exact SeqAt.EqAt.bool_str a b t
    | _ => exact absurd (show false = true from fx) Bool.false_ne_true
  | int a =>
    obtain ⟨t', rfl⟩ := ry
    cases x with
    | non => cases rx; exact SeqAt.EqAt.int_none a t'
    | bl b => cases rx; exact SeqAt.EqAt.int_bool a t' b
    | int b => obtain ⟨t, rfl⟩ := rx; exact SeqAt.EqAt.int_int a t' b t
    | str b => obtain ⟨t, rfl⟩ := rx; exact SeqAt.EqAt.int_str a t' b t
    | _ => exact absurd (show false = true from fx) Bool.false_ne_true
  | str a =>
    obtain ⟨t', rfl⟩ := ry
    cases x with
    | non => cases rx; exact SeqAt.EqAt.str_none a t'
    | bl b => cases rx; exact SeqAt.EqAt.str_bool a t' b
    | int b => obtain ⟨t, rfl⟩ := rx; exact SeqAt.EqAt.str_int a t' b t
    | str b => obtain ⟨t, rfl⟩ := rx; exact SeqAt.EqAt.str_str a t' b t
    | _ => exact absurd (show false = true from fx) Bool.false_ne_true
  | _ => exact absurd (show false = true from fy) Bool.false_ne_true
/-- the items' answers, read off the values (a value's own answer does not lean on its token) -/
def eqU (x : V) (u : Value) : Bool := match u with
  | .none => eqV .non x
  | .bool b => eqV (.bl b) x
  | .int i _ => eqV (.int i) x
  | .str z _ => eqV (.str z) x
  | _ => false
theorem eqU_of {x y : V} {u : Value} (r : RelV y u) (f : flatV y = true) : eqU x u = eqV y x := by
  cases y with
  | non => cases r; rfl
  | bl b => cases r; rfl
  | int i => obtain ⟨t, rfl⟩ := r; rfl
  | str z => obtain ⟨t, rfl⟩ := r; rfl
  | _ => exact absurd (show false = true from f) Bool.false_ne_true
theorem any_eqU {x : V} : ∀ {xs : List V} {us : List Value}, Vals xs us → xs.all flatV = true → us.any (eqU x) = xs.any fun y => eqV y x
  | _, _, .nil, _ => rfl
  | y :: xs, u :: us, .cons r t, f => by
    rw [List.all_cons, Bool.and_eq_true] at f
    rw [List.any_cons, List.any_cons, eqU_of r f.1, any_eqU t f.2]
theorem mem_eqAt {A : Around} {s : Shared} {x : V} {v : Value} (rx : RelV x v) (fx : flatV x = true) : ∀ {xs : List V} {us : List Value}, Vals xs us → xs.all flatV = true → ∀ u ∈ us, SeqAt.EqAt A s u v (eqU x u)
  | _, _, .nil, _ => fun u hu => by cases hu
  | y :: xs, u :: us, .cons r t, f => fun u' hu => by
    rw [List.all_cons, Bool.and_eq_true] at f
    rcases List.mem_cons.mp hu with rfl | hu
    · rw [eqU_of r f.1]; exact eqAt_V r rx f.1 fx
    · exact mem_eqAt rx fx t f.2 u' hu
def inV (x : V) (xs : List V) : Bool := xs.any fun y => eqV y x
/-- x in a list or tuple of flat items -/
def rIn (K : PySem.W.Frag) (neg : Bool) : R2 := fun x y H Q => ∃ p xs, y = .ref p ∧ (SqL K H p xs ∨ SqT K H p xs) ∧ flatV x = true ∧ xs.all flatV = true ∧ Q (.bl (if neg then !inV x xs else inV x xs)) H
theorem op_in_seq : OpR X (compareOp .In) (rIn X.K false) := by
  intro pins s σ H x y v u Q I rx ry h
  obtain ⟨p, xs, rfl, hq, fx, fs, q⟩ := h
  cases ry
  rcases hq with hq | hq
  · obtain ⟨its, r, pl, hz⟩ := I.list hq
    refine SeqAt.in_listAt (eqU x) pl.isList (fun w hw => mem_eqAt rx fx r fs w (by simpa using hw)) ⟨.bl _, H, I, rfl, ?_⟩
    rw [show its.toArray.any (eqU x) = its.any (eqU x) by simp, any_eqU r fs]
    exact q
  · obtain ⟨its, r, pl, hz⟩ := I.tuple hq
    refine SeqAt.in_tupleAt (eqU x) pl (fun w hw => mem_eqAt rx fx r fs w (by simpa using hw)) ⟨.bl _, H, I, rfl, ?_⟩
    rw [show its.toArray.any (eqU x) = its.any (eqU x) by simp, any_eqU r fs]
    exact q

/-! ### len, list(x), tuple(x) of any list or tuple that is read -/
theorem call_len_seq : CallR X (.builtin "len") (fun xs H Q => ∃ p ys, xs = [.ref p] ∧ (SqL X.K H p ys ∨ SqT X.K H p ys) ∧ Q (.int ys.length) H) := by
  intro pins s σ H xs us Q I r h
  obtain ⟨p, ys, rfl, hq, q⟩ := h
  obtain ⟨u, rfl, rx⟩ := vals1 r
  cases rx
  have hn := line63
  rcases hq with hq | hq
  · obtain ⟨its, r', pl, hz⟩ := I.list hq
    have hlen := r'.length
    exact Calls.call_len_list pl.isList (by simp only [List.size_toArray] <;> omega) ⟨.int ys.length, H, I.tok _, ⟨s.toks + 1, by rw [List.size_toArray, hlen]⟩, q⟩
  · obtain ⟨its, r', pl, hz⟩ := I.tuple hq
    have hlen := r'.length
    exact len_tuple pl (by simp only [List.size_toArray] <;> omega) ⟨.int ys.length, H, I.tok _, ⟨s.toks + 1, by rw [List.size_toArray, hlen]⟩, q⟩
theorem call_list_of : CallR X (.type "list") (fun xs H Q => ∃ p ys, xs = [.ref p] ∧ (SqL X.K H p ys ∨ SqT X.K H p ys) ∧ ∀ l, H l = none → Q (.ref l) (upd H l (.lst ys))) := by
  intro pins s σ H xs us Q I r h
  obtain ⟨p, ys, rfl, hq, q⟩ := h
  obtain ⟨u, rfl, rx⟩ := vals1 r
  cases rx
  have fin : ∀ (its : List Value), Vals ys its → ys.length ≤ sizeLine → ∀ (h' : Heap) (c' : Nat), (∀ b o', s.heap.get? b = some o' → h'.get? b = some o') →
      h'.get? s.heap.objs.size = some { cls := .type "list", dict := none, data := .seq its.toArray c', slots := #[] } → EP X pins σ Q (.ref s.heap.objs.size) { s with heap := h' } := fun its r' hz h' c' kp e =>
    ⟨.ref s.heap.objs.size, _, I.laid (t' := s.toks) kp (Nat.le_refl _) (show ObjOk X.prog X.w _ h' _ (.lst ys) from ⟨hz, its, c', r', e⟩), rfl, q _ (I.hok.fresh (Nat.le_refl _))⟩
  rcases hq with hq | hq
  · obtain ⟨its, r', pl, hz⟩ := I.list hq
    have hlen := r'.length
    obtain ⟨o, ho, hc, n, hd⟩ := pl.isList
    exact call_list_seq p (.inl rfl) ho hc hd (fun h' c' kp e => fin its r' hz h' c' kp e) (by simp only [List.size_toArray] <;> omega)
  · obtain ⟨its, r', pl, hz⟩ := I.tuple hq
    have hlen := r'.length
    obtain ⟨o, ho, hc, n, hd⟩ := pl
    exact call_list_seq p (.inr rfl) ho hc hd (fun h' c' kp e => fin its r' hz h' c' kp e) (by simp only [List.size_toArray] <;> omega)
theorem call_tuple_of : CallR X (.type "tuple") (fun xs H Q => ∃ p ys, xs = [.ref p] ∧ ((SqL X.K H p ys ∧ ∀ l, H l = none → Q (.ref l) (upd H l (.tup ys))) ∨ (SqT X.K H p ys ∧ Q (.ref p) H))) := by
  intro pins s σ H xs us Q I r h
  obtain ⟨p, ys, rfl, h⟩ := h
  obtain ⟨u, rfl, rx⟩ := vals1 r
  cases rx
  rcases h with ⟨hq, q⟩ | ⟨hq, q⟩
  · obtain ⟨its, r', pl, hz⟩ := I.list hq
    have hlen := r'.length
    refine call_tuple_list pl.isList (fun h' kp => ?_) (by simp only [List.size_toArray] <;> omega)
    have I1 : Inv X pins σ H { s with heap := h' } := I.kept (t' := s.toks) kp
    have I2 : Inv X pins σ (upd H h'.objs.size (.tup ys)) { s with heap := h'.push { cls := .type "tuple", data := .seq its.toArray } } :=
      I1.laid (t' := s.toks) (fun b o e => Heap.get?_push_of_some _ e) (Nat.le_refl _) (show ObjOk X.prog X.w _ _ _ (.tup ys) from ⟨hz, its, r', IsTup.new _ _⟩)
    exact ⟨.ref h'.objs.size, _, I2, rfl, q _ (I1.hok.fresh (Nat.le_refl _))⟩
  · obtain ⟨its, r', pl, hz⟩ := I.tuple hq
    exact call_tuple_same pl ⟨.ref p, H, I, rfl, q⟩

/-! ### the call of a builtin's method: o.m(..) -/
/-- the value is of that builtin type -/
def tyV (K : PySem.W.Frag) (T : String) (x : V) (H : Hp) : Prop := match x with
  | .str _ => T = "str"
  | .int _ => T = "int"
  | .ref p => (T = "list" ∧ ∃ xs, SqL K H p xs) ∨ (T = "tuple" ∧ ∃ o, K.lookup p = some o ∧ o.cls = .type "tuple" ∧ o.dict = none) ∨
      (T = "dict" ∧ ((∃ kvs, H p = some (.dK kvs)) ∨ ∃ kvs, H p = some (.dT kvs))) ∨ (T = "set" ∧ ∃ S n, H p = some (.set S n))
  | _ => False
theorem tyV_is {pins : List (Addr × Obj)} {σ : St} {H : Hp} {s : Shared} {T : String} {x : V} {v : Value} (I : Inv X pins σ H s) (r : RelV x v) (ty : tyV X.K T x H) :
    s.TypeIs v T ∧ ∀ a, v = .ref a → ∃ ob, s.heap.get? a = some ob ∧ ob.dict = none := by
  cases x with
  | str z =>
    obtain ⟨t, rfl⟩ := r
    cases (show T = "str" from ty)
    exact ⟨typeIs_str s z t, fun _ e => nomatch e⟩
  | int i =>
    obtain ⟨t, rfl⟩ := r
    cases (show T = "int" from ty)
    exact ⟨typeIs_int s i t, fun _ e => nomatch e⟩
  | ref p =>
    cases r
    rcases ty with ⟨rfl, xs, hq⟩ | ⟨rfl, o, hk, hc, hd⟩ | ⟨rfl, hk⟩ | ⟨rfl, S, n, hk⟩
    · obtain ⟨its, _, pl, _⟩ := I.list hq
      refine ⟨pl.isList.typeIs, fun a e => ?_⟩
      cases e
      obtain ⟨o, n, e, c, hd, _⟩ := pl
      exact ⟨o, e, hd⟩
    · refine ⟨⟨o, I.kIn p o hk, hc⟩, fun a e => ?_⟩
      cases e
      exact ⟨o, I.kIn _ o hk, hd⟩
    · have z : ∃ o, s.heap.get? p = some o ∧ o.ExactDict := by
        rcases hk with ⟨kvs, hk⟩ | ⟨kvs, hk⟩
        · obtain ⟨_, _, _, _, o, _, _, e, ex, _⟩ := I.hok p _ hk
          exact ⟨o, e, ex⟩
        · obtain ⟨_, _, _, _, o, _, _, e, ex, _⟩ := I.hok p _ hk
          exact ⟨o, e, ex⟩
      obtain ⟨o, e, ex⟩ := z
      refine ⟨⟨o, e, ex.1⟩, fun a e2 => ?_⟩
      cases e2
      exact ⟨o, e, ex.2.1⟩
    · obtain ⟨o, _, _, _, e, ex, _⟩ := I.hok p _ hk
      refine ⟨⟨o, e, ex.1⟩, fun a e2 => ?_⟩
      cases e2
      exact ⟨o, e, ex.2.1⟩
  | _ => exact False.elim ty
def tBM (K : PySem.W.Frag) (T : String) (r : V → List V → Hp → VK → Prop) (to : TE) (t : TA) : TE := fun σ H Q => to σ H fun x H1 => tyV K T x H1 ∧ t σ H1 fun xs H2 => r x xs H2 Q
variable {o e : Expr} {es : List Expr} {to : TE} {t : TA} {name : Str} {apos cpos : Pos} {T id : String} {r : V → List V → Hp → VK → Prop}
theorem pe_bm (pa : PlainAttrs T) (slot : Slot T name id) (hty : typeOf (.builtin id) = pure (.type "method_descriptor")) (hm : MtR X id r) (ho : PE X o to) (ha : PA X (e :: es) t)
    (hbase : attributeBase o name X.env (eval o X.env) = eval o X.env := by rfl)
    (hfew : ((backTo cpos (starEach (e :: es) X.env)).all (fun x => !x.1) && (backToKw cpos (keywordEach [] X.env)).all (fun x => x.1.isSome)
      && decide ((e :: es).length + ([] : List Keyword).length + (if ([] : List Keyword).isEmpty then 0 else 1) < 30)) = true := by rfl)
    (hline : (apos.endLine == cpos.line) = true := by rfl) (hs : starEach (e :: es) X.env = (false, eval e X.env) :: starEach es X.env := by rfl) (hplain : (backTo cpos (starEach es X.env)).any (·.1) = false := by rfl) :
    PE X (.Call (.Attribute o name apos) (e :: es) [] cpos) (tBM X.K T r to t) := by
  intro pins s σ H Q I h
  refine wpAny_Call_method_late hbase hfew hline rfl (thn (ho pins s σ H _ I h) fun v s1 ⟨x, H1, I1, r1, ty, q1⟩ => ?_)
  obtain ⟨h1, h2⟩ := tyV_is I1 r1 ty
  refine ⟨T, id, pa, slot, hty, h1, h2, ?_⟩
  have hA := ha cpos pins s1 σ H1 _ I1 q1
  rw [hs] at hA ⊢
  refine Calls.callWith_builtin (by show (false || (backTo cpos (starEach es X.env)).any (·.1)) = false; rw [hplain] <;> rfl) (Calls.evalArgs_plain ?_)
  exact thn hA fun us s2 ⟨vs, H2, I2, r2, q2⟩ => hm pins s2 σ H2 x vs v us Q I2 r1 r2 q2
/- xs.append(e), list.index on a module's tuple .. are MtR facts of 06m -/
end
end L2

namespace L2
open PySem PySem.Spec PyProof.Rows

def MtM (X : Cx) (id : String) (r : V → List V → Hp → VK → Prop) : Prop :=
  ∀ (pins : List (Addr × Obj)) (s : Shared) (σ : St) (H : Hp) (x : V) (xs : List V) (v : Value) (us : List Value) (Q : VK), Inv X pins σ H s → RelV x v → Vals xs us → r x xs H Q →
    wpAny (model X.prog X.w) X.A (call (.builtin id) (v :: us)) (EP X pins σ Q) X.xe s

/-! ### lists of values -/
theorem Vals.one : ∀ {x : V} {us : List Value}, Vals [x] us → ∃ u, us = [u] ∧ RelV x u
  | _, _, .cons r .nil => ⟨_, rfl, r⟩
theorem Vals.rep {xs : List V} {us : List Value} (h : Vals xs us) : ∀ k : Nat, Vals (List.replicate k xs).flatten (List.replicate k us).flatten
  | 0 => .nil
  | k + 1 => by
    rw [List.replicate_succ, List.replicate_succ, List.flatten_cons, List.flatten_cons]
    exact Vals.append h (Vals.rep h k)
theorem foldl_rep (its : List Value) : ∀ (k : Nat) (acc : List Value),
    List.foldl (fun x1 x2 => x1 ++ x2) acc.toArray (List.replicate k its.toArray) = (acc ++ (List.replicate k its).flatten).toArray
  | 0, acc => by simp
  | k + 1, acc => by
    have e : acc.toArray ++ its.toArray = (acc ++ its).toArray := by simp
    have e2 : (acc ++ its) ++ (List.replicate k its).flatten = acc ++ (List.replicate (k + 1) its).flatten := by
      rw [List.replicate_succ, List.flatten_cons, List.append_assoc]
    rw [← e2, ← foldl_rep its k (acc ++ its), ← e, List.replicate_succ, List.foldl_cons]

section
variable {X : Cx} {pins : List (Addr × Obj)} {σ : St} {H : Hp} {s : Shared} {l b : Addr} {xs ys zs : List V}

/-! ### the two steps: a tracked list is rewritten, a new list is laid -/
theorem Inv.lset {its its' : List Value} {n : Nat} {f : Array Value → Array Value} {t' : Nat} (I : Inv X pins σ H s) (hH : H l = some (.lst xs))
    (e : s.heap.get? l = some { cls := .type "list", data := .seq its.toArray n }) (hf : f its.toArray = its'.toArray) (hv : Vals ys its') (hz : ys.length ≤ sizeLine) :
    Inv X pins σ (upd H l (.lst ys)) { s with heap := s.heap.update l (Obj.mapSeq f), toks := t' } := by
  have q := PySem.IsL.update e f
  rw [hf] at q
  refine I.write (x := l) (e := l) (by rw [hH]; exact trivial) (.inl rfl) (fun b' u hb hu => (Heap.get?_update_other s.heap (Obj.mapSeq f) (Ne.symm hb)).trans hu) ⟨_, q⟩ ?_
  exact ⟨hz, its', _, hv, q⟩
theorem Inv.lnew {its : List Value} {t' : Nat} (I : Inv X pins σ H s) (hv : Vals ys its) (hz : ys.length ≤ sizeLine) :
    Inv X pins σ (upd H s.heap.objs.size (.lst ys)) { s with heap := s.heap.push { cls := .type "list", data := .seq its.toArray }, toks := t' } :=
  I.laid (fun _ _ q => Heap.get?_push_of_some _ q) (Nat.le_refl _) ⟨hz, its, 0, hv, Heap.get?_push_size _ rfl⟩
theorem Inv.fresh (I : Inv X pins σ H s) : H s.heap.objs.size = none := I.hok.fresh (Nat.le_refl _)
theorem Inv.lstM (I : Inv X pins σ H s) (hH : H l = some (.lst xs)) : xs.length ≤ sizeLine ∧ ∃ (its : List Value) (n : Nat), Vals xs its ∧ xs.length = its.length ∧ s.heap.get? l = some { cls := .type "list", data := .seq its.toArray n } := by
  obtain ⟨z, its, n, r, e⟩ := I.hok l _ hH
  exact ⟨z, its, n, r, r.length, e⟩

theorem notLongL {n : Nat} (h : n ≤ sizeLine) : Builtin.List.listTooLong n = false := by
  unfold Builtin.List.listTooLong
  exact decide_eq_false (by omega)
end

section
variable {X : Cx}

/-! ### methods -/
def rAppend : V → List V → Hp → VK → Prop := fun x vs H Q => ∃ l xs y, x = .ref l ∧ vs = [y] ∧ H l = some (.lst xs) ∧ xs.length < sizeLine ∧ Q .non (upd H l (.lst (xs ++ [y])))
theorem mt_append : MtM X "list.append" rAppend := by
  intro pins s σ H x vs v us Q I rx rv h
  obtain ⟨l, xs, y, rfl, rfl, hH, hz, q⟩ := h
  cases rx
  obtain ⟨u, rfl, ru⟩ := rv.one
  obtain ⟨z, its, n, r, hl, e⟩ := I.lstM hH
  refine call_meets F.slot_list_append ⟨_, e, rfl⟩ F.entry_list_append (F.args_list_append_2 _ _) (PySem.list_append l its.toArray n u (by rw [List.size_toArray]; omega)) ⟨e, ?_⟩
  refine ⟨.non, _, I.lset (its' := its ++ [u]) hH e (by simp) (r.append (.cons ru .nil)) ?_, rfl, q⟩
  rw [List.length_append, List.length_singleton]
  omega

def rExtend : V → List V → Hp → VK → Prop := fun x vs H Q => ∃ l b xs zs, x = .ref l ∧ vs = [.ref b] ∧ H l = some (.lst xs) ∧ H b = some (.lst zs) ∧ xs.length + zs.length ≤ sizeLine ∧ Q .non (upd H l (.lst (xs ++ zs)))
theorem mt_extend : MtM X "list.extend" rExtend := by
  intro pins s σ H x vs v us Q I rx rv h
  obtain ⟨l, b, xs, zs, rfl, rfl, hH, hB, hz, q⟩ := h
  cases rx
  obtain ⟨u, rfl, ru⟩ := rv.one
  cases ru
  obtain ⟨z, its, n, r, hl, e⟩ := I.lstM hH
  obtain ⟨z2, its2, n2, r2, hl2, e2⟩ := I.lstM hB
  have hsz : its.toArray.size + its2.toArray.size ≤ sizeLine := by rw [List.size_toArray, List.size_toArray]; omega
  have hlong : ¬ (!its.toArray.isEmpty && Builtin.List.listTooLong (its.toArray.size + its2.toArray.size)) = true := by
    rw [notLongL hsz, Bool.and_false]
    exact Bool.false_ne_true
  refine call_meets F.slot_list_extend ⟨_, e, rfl⟩ F.entry_list_extend (F.args_list_extend_2 _ _)
    (AutoSeq1.list_extend_list_list_0 l its.toArray n b its2.toArray n2 hlong (by rw [List.size_toArray]; omega) (by omega)) ⟨e, e2, ?_⟩
  refine ⟨.non, _, I.lset (its' := its ++ its2) hH e (by simp) (r.append r2) ?_, rfl, q⟩
  rw [List.length_append]
  omega





/-! ### list + list, list += list, list * int -/
def rCat : R2 := fun x y H Q => ∃ l b xs zs, x = .ref l ∧ y = .ref b ∧ H l = some (.lst xs) ∧ H b = some (.lst zs) ∧ xs.length + zs.length ≤ sizeLine ∧ ∀ p, H p = none → Q (.ref p) (upd H p (.lst (xs ++ zs)))
theorem op_cat : OpR X (binaryOp .Add) rCat := by
  intro pins s σ H x y v u Q I rx ry h
  obtain ⟨l, b, xs, zs, rfl, rfl, hH, hB, hz, q⟩ := h
  cases rx
  cases ry
  obtain ⟨z, its, n, r, hl, e⟩ := I.lstM hH
  obtain ⟨z2, its2, n2, r2, hl2, e2⟩ := I.lstM hB
  refine PySem.P.add_list e e2 ?_ (by rw [List.size_toArray, List.size_toArray]; omega)
  have ea : its.toArray ++ its2.toArray = (its ++ its2).toArray := by simp
  rw [ea]
  exact ⟨.ref _, _, I.lnew (t' := s.toks) (r.append r2) (by rw [List.length_append]; omega), rfl, q _ I.fresh⟩
/-- a list times an int (a negative one is nothing) -/
def rRep : R2 := fun x y H Q => ∃ l k xs, x = .ref l ∧ y = .int k ∧ H l = some (.lst xs) ∧ -(2 ^ 63) ≤ k ∧ k < 2 ^ 63 ∧ xs.length * k.toNat ≤ sizeLine ∧
  ∀ p, H p = none → Q (.ref p) (upd H p (.lst (List.replicate k.toNat xs).flatten))
theorem len_rep {α : Type} (xs : List α) (k : Nat) : (List.replicate k xs).flatten.length = k * xs.length := by
  induction k with
  | zero => simp
  | succ k ih => rw [List.replicate_succ, List.flatten_cons, List.length_append, ih, Nat.succ_mul, Nat.add_comm]
theorem op_rep : OpR X (binaryOp .Mult) rRep := by
  intro pins s σ H x y v u Q I rx ry h
  obtain ⟨l, k, xs, rfl, rfl, hH, h1, h2, hz, q⟩ := h
  cases rx
  obtain ⟨t, rfl⟩ := ry
  obtain ⟨z, its, n, r, hl, e⟩ := I.lstM hH
  have hlen : its.toArray.size * k.toNat ≤ sizeLine := by rw [List.size_toArray, ← hl]; exact hz
  have hcap : ¬ its.toArray.size * k.toNat > (2 ^ 63 - 1) / 8 := by
    have : (sizeLine : Nat) ≤ (2 ^ 63 - 1) / 8 := by decide
    omega
  have hfit : ¬ (!Builtin.List.listFitsIndex k) = true := by
    rw [fitsIndex_both h1 h2]
    exact Bool.false_ne_true
  have hlong : ¬ Builtin.List.listTooLong (its.toArray.size * k.toNat) = true := by
    rw [notLongL hlen]
    exact Bool.false_ne_true
  have hnew : List.foldl (fun x1 x2 => x1 ++ x2) #[] (List.replicate (if its.toArray.isEmpty = true then 0 else k.toNat) its.toArray) = (List.replicate k.toNat its).flatten.toArray := by
    have f0 : ∀ m : Nat, List.foldl (fun x1 x2 => x1 ++ x2) #[] (List.replicate m its.toArray) = (List.replicate m its).flatten.toArray := fun m => by
      have := foldl_rep its m []
      rw [List.nil_append] at this
      exact this
    rw [f0]
    cases its with
    | nil => simp
    | cons a r' => rw [if_neg (by simp)]
  refine wpAny_binaryOp_repeat_ref (T := "list") (U := "int") (by decide) ⟨_, e, rfl⟩ (fun s' => typeIs_int s' k t) noFill_list_mul F.fills_int_mul F.slot_int_rmul repeat_list F.slot_int_index.lookup
    (call_meets F.slot_int_rmul (typeIs_int s k t) F.entry_int_rmul (F.args_int_rmul_2 _ _) (int___rmul___int_list k t l its.toArray n)
      ⟨e, rfl, ⟨_, e, rfl⟩, call_meets F.slot_list_mul ⟨_, e, rfl⟩ F.entry_list_mul (F.args_list_mul_2 _ _) (AutoListH.list___mul___list_int_3 l its.toArray n k t hfit hcap hlong) ⟨e, ?_⟩⟩)
  rw [hnew]
  exact ⟨.ref _, _, I.lnew (t' := s.toks) (r.rep k.toNat) (by rw [len_rep, Nat.mul_comm]; exact hz), rfl, q _ I.fresh⟩

/-! ### del xs[i] -/
end

/-! ### xs[a:b] = ys -/
section
variable {prog : Program} {w : World} {A : Around} {E : Value → Shared → Prop} {s : Shared}
end

section
variable {X : Cx}
end
end L2

namespace L2
open PySem PySem.Spec PyProof.Rows

theorem vals_of_ints : ∀ {us : List Value} {ns : List Int}, IntsAre us ns → Vals (ns.map V.int) us
  | _, _, .nil => by rw [List.map_nil]; exact Paired.nil
  | _, _, .cons n t h => by rw [List.map_cons]; exact Paired.cons (show RelV (V.int n) (Value.int n t) from ⟨t, rfl⟩) (vals_of_ints h)
theorem Vals.ref1 {a : Addr} {us : List Value} (r : Vals [V.ref a] us) : us = [Value.ref a] := by
  cases r with
  | cons r t =>
    cases t
    cases r
    rfl

/-! ### the library's walks over a list of ints, kept objects alone -/
section
variable {prog : Program} {w : World} {A : Around} {E : Value → Shared → Prop} {s : Shared} {l : Addr} {its : List Value} {ns : List Int} {Q : Value → Shared → Prop}
end

/-! ### the calls, by values (CallR of 03t; MtR of 06l) -/
section
variable {X : Cx}

/-! sorted, sort (fewer than 64 items: the library's own bound) -/
end

/-! ### list.index, flat items -/
section
variable {X : Cx}
end

/-! ### type(x) of an own instance; is, is not of a module's class -/
section
variable {X : Cx}
end

/-! ### any(xs), all(xs) of a list of bools -/
section
variable {X : Cx}
end

/-! ### == and != of data at any depth: none, bools, ints, texts, lists, tuples -/
mutual
inductive Dp (K : PySem.W.Frag) (H : Hp) : V → PyData → Prop
  | non : Dp K H .non .none
  | bl (b : Bool) : Dp K H (.bl b) (.bool b)
  | int (i : Int) : Dp K H (.int i) (.int i)
  | str (x : Str) : Dp K H (.str x) (.str x)
  | lst {a : Addr} {xs : List V} {ds : List PyData} : SqL K H a xs → DpAll K H xs ds → Dp K H (.ref a) (.list ds)
  | tup {a : Addr} {xs : List V} {ds : List PyData} : SqT K H a xs → DpAll K H xs ds → Dp K H (.ref a) (.tuple ds)
inductive DpAll (K : PySem.W.Frag) (H : Hp) : List V → List PyData → Prop
  | nil : DpAll K H [] []
  | cons {v : V} {vs : List V} {d : PyData} {ds : List PyData} : Dp K H v d → DpAll K H vs ds → DpAll K H (v :: vs) (d :: ds)
end
section
variable {X : Cx} {pins : List (Addr × Obj)} {σ : St} {H : Hp} {s : Shared}
end
section
variable {X : Cx}
end
end L2

namespace L2
open PySem PySem.Spec PyProof.Rows










/-- the names of a comprehension's block: its own (with their places in N), or captured -/
structure BlkOk (N : List Str) (sc scope : Scope) (own : List (Str × Nat)) : Prop where
  kind : scope.kind = .function
  uniq : ∀ y ∈ scope.names, scope.names.lookup y.1 = some y.2
  ix : ∀ p ∈ own, N[p.2]? = some p.1
  free : ∀ y ∈ scope.names, y.2 = .free → sc.names.lookup y.1 = some .cell ∨ sc.names.lookup y.1 = some .free
  own : ∀ y ∈ scope.names, y.2 = .local ∨ y.2 = .cell → y.1 ∈ own.map (·.1) ∨ y.1 ∉ N

section
variable {X : Cx} {pins : List (Addr × Obj)} {σ : St} {H : Hp} {s : Shared}


end



section
variable {X : Cx}
end

/-! ### the forms one uses -/
end L2

namespace L2
open PySem PySem.Spec PyProof.Rows


section
variable {prog : Program} {w : World} {A : Around} {R : Result → Shared → Prop} {s : Shared} {elt t0 i0 t1 i1 : Expr} {ifs0 ifs1 : List Expr} {scope : Scope} {pos : Pos} {it acc : Value} {env : Env}
end

section
variable {X : Cx}
end
end L2

namespace L2
open PySem PySem.Spec PyProof.Rows

/-! ### lists of pairs as tables -/
section
variable {κ : Type} [DecidableEq κ]
def valV (kvs : List (κ × V)) (k : κ) : Option V := (kvs.find? fun kv => decide (kv.1 = k)).map (·.2)
/-- in its place, or at the end -/
def putK (kvs : List (κ × V)) (k : κ) (v : V) : List (κ × V) :=
  if (kvs.any fun kv => decide (kv.1 = k)) = true then kvs.map (fun kv => if kv.1 = k then (kv.1, v) else kv) else kvs ++ [(k, v)]
def dropK (kvs : List (κ × V)) (k : κ) : List (κ × V) := kvs.filter fun kv => decide (kv.1 ≠ k)

theorem valV_pos {p : κ × V} {r : List (κ × V)} {k : κ} (e : p.1 = k) : valV (p :: r) k = some p.2 := by simp [valV, List.find?_cons, e]
theorem valV_neg {p : κ × V} {r : List (κ × V)} {k : κ} (e : ¬ p.1 = k) : valV (p :: r) k = valV r k := by simp [valV, List.find?_cons, e]
theorem valV_any (k : κ) : ∀ kvs : List (κ × V), (kvs.any fun kv => decide (kv.1 = k)) = (valV kvs k).isSome
  | [] => rfl
  | p :: r => by
    rw [List.any_cons]
    by_cases e : p.1 = k
    · simp only [valV_pos e, decide_eq_true e, Bool.true_or, Option.isSome_some]
    · rw [valV_neg e, decide_eq_false e, Bool.false_or]; exact valV_any k r
theorem length_putK (kvs : List (κ × V)) (k : κ) (v : V) : (putK kvs k v).length ≤ kvs.length + 1 := by
  unfold putK
  split
  · rw [List.length_map]; omega
  · rw [List.length_append, List.length_cons, List.length_nil]; omega

theorem RelO.isSome_eq {o : Option V} {u : Option Value} (r : RelO o u) : o.isSome = u.isSome := by
  cases o with
  | none => cases u with
    | none => rfl
    | some _ => exact (show False from r).elim
  | some _ => cases u with
    | none => exact (show False from r).elim
    | some _ => rfl

/-- raw tables of the same keys -/
theorem KV.val {kvs : List (κ × V)} {vs : List (κ × Value)} (r : KV kvs vs) (k : κ) : RelO (valV kvs k) (valueAt vs k) := by
  unfold KV at r
  induction r with
  | nil => exact True.intro
  | @cons p q ps qs h t ih =>
    obtain ⟨h1, h2⟩ := h
    by_cases e : p.1 = k
    · have e' : q.1 = k := h1.symm.trans e
      have b : valueAt (q :: qs) k = some q.2 := by simp [valueAt, List.find?_cons, e']
      rw [valV_pos e, b]; exact h2
    · have e' : ¬ q.1 = k := fun z => e (h1.trans z)
      have b : valueAt (q :: qs) k = valueAt qs k := by simp [valueAt, List.find?_cons, e']
      rw [valV_neg e, b]; exact ih
theorem KV.any {kvs : List (κ × V)} {vs : List (κ × Value)} (r : KV kvs vs) (k : κ) : (kvs.any fun kv => decide (kv.1 = k)) = vs.any fun kv => decide (kv.1 = k) := by
  unfold KV at r
  induction r with
  | nil => rfl
  | cons h t ih => rw [List.any_cons, List.any_cons, ih, h.1]
theorem KV.repl {kvs : List (κ × V)} {vs : List (κ × Value)} (r : KV kvs vs) (k : κ) {y : V} {u : Value} (ry : RelV y u) :
    KV (kvs.map fun kv => if kv.1 = k then (kv.1, y) else kv) (vs.map fun kv => if kv.1 = k then (kv.1, u) else kv) := by
  unfold KV at r ⊢
  induction r with
  | nil => exact .nil
  | @cons p q ps qs h t ih =>
    rw [List.map_cons, List.map_cons]
    refine .cons ?_ ih
    obtain ⟨h1, h2⟩ := h
    by_cases e : p.1 = k
    · rw [if_pos e, if_pos (h1.symm.trans e)]; exact ⟨h1, ry⟩
    · rw [if_neg e, if_neg (fun z => e (h1.trans z))]; exact ⟨h1, h2⟩
theorem KV.put {kvs : List (κ × V)} {vs : List (κ × Value)} (r : KV kvs vs) (k : κ) {y : V} {u : Value} (ry : RelV y u) : KV (putK kvs k y) (stored vs k u) := by
  unfold putK stored
  rw [r.any k]
  by_cases e : (vs.any fun kv => decide (kv.1 = k)) = true
  · rw [if_pos e, if_pos e]; exact r.repl k ry
  · rw [if_neg e, if_neg e]; exact Paired.snoc r ⟨rfl, ry⟩
theorem KV.length {kvs : List (κ × V)} {vs : List (κ × Value)} (r : KV kvs vs) : kvs.length = vs.length := Paired.length r
theorem dropK_le (kvs : List (κ × V)) (k : κ) : (dropK kvs k).length ≤ kvs.length := List.length_filter_le _ _
end


/-! ### a tracked dict, its keys ints and texts or tuples of these -/
theorem kV_is {P : Program} {w : World} {k : Key} {u : Value} (r : RelV (kV k) u) : (mixKind P w).is k u = true := by
  cases k with
  | inl i => obtain ⟨t, e⟩ := (show ∃ t, u = Value.int i t from r); subst e; exact mixKind_int P w i t
  | inr x => obtain ⟨t, e⟩ := (show ∃ t, u = Value.str x t from r); subst e; exact mixKind_str P w x t
theorem items_are {P : Program} {w : World} : ∀ {ks : List Key} {us : List Value}, Vals (ks.map kV) us → ItemsAre (mixKind P w) ks us
  | [], _, r => by rw [List.map_nil] at r; cases r; exact .nil
  | k :: ks, _, r => by
    rw [List.map_cons] at r
    cases r with
    | cons h t => exact .cons (kV_is h) (items_are t)

/-- raw entries of a dict with tuple keys -/
abbrev KT (H : Hp) : List (List Key × V) → List (List Key × Addr × Value) → Prop := Paired fun p q => p.1 = q.1 ∧ H q.2.1 = some (.tup (p.1.map kV)) ∧ RelV p.2 q.2.2
theorem KT.val {H : Hp} {kvs : List (List Key × V)} {xs : List (List Key × Addr × Value)} (r : KT H kvs xs) (k : List Key) : RelO (valV kvs k) ((atKey xs k).map (·.2)) := by
  induction r with
  | nil => exact True.intro
  | @cons p q ps qs h t ih =>
    obtain ⟨h1, _, h2⟩ := h
    by_cases e : p.1 = k
    · have e' : q.1 = k := h1.symm.trans e
      have b : atKey (q :: qs) k = some q.2 := by simp [atKey, List.find?_cons, e']
      rw [valV_pos e, b]; exact h2
    · have e' : ¬ q.1 = k := fun z => e (h1.trans z)
      have b : atKey (q :: qs) k = atKey qs k := by simp [atKey, List.find?_cons, e']
      rw [valV_neg e, b]; exact ih
theorem KT.repl {H : Hp} {kvs : List (List Key × V)} {xs : List (List Key × Addr × Value)} (r : KT H kvs xs) (k : List Key) {y : V} {u : Value} (ry : RelV y u) :
    KT H (kvs.map fun kv => if kv.1 = k then (kv.1, y) else kv) (xs.map (putAt k u)) := by
  induction r with
  | nil => exact .nil
  | @cons p q ps qs h t ih =>
    rw [List.map_cons, List.map_cons]
    refine .cons ?_ ih
    obtain ⟨h1, h2, h3⟩ := h
    unfold putAt
    by_cases e : p.1 = k
    · rw [if_pos e, if_pos (h1.symm.trans e)]; exact ⟨h1, h2, ry⟩
    · rw [if_neg e, if_neg (fun z => e (h1.trans z))]; exact ⟨h1, h2, h3⟩
theorem KT.put {H : Hp} {kvs : List (List Key × V)} {xs : List (List Key × Addr × Value)} (r : KT H kvs xs) (k : List Key) {b : Addr} {y : V} {u : Value} (hb : H b = some (.tup (k.map kV))) (ry : RelV y u) :
    KT H (putK kvs k y) (storedH xs k b u) := by
  have e : (kvs.any fun kv => decide (kv.1 = k)) = (atKey xs k).isSome := by
    rw [valV_any, (r.val k).isSome_eq, Option.isSome_map]
  unfold putK storedH
  rw [e]
  by_cases q : (atKey xs k).isSome = true
  · rw [if_pos q, if_pos q]; exact r.repl k ry
  · rw [if_neg q, if_neg q]; exact Paired.snoc r ⟨rfl, hb, ry⟩
theorem KT.keeps {H H' : Hp} {kvs : List (List Key × V)} {xs : List (List Key × Addr × Value)} (r : KT H kvs xs) (ht : ∀ b ys, H b = some (.tup ys) → H' b = some (.tup ys)) : KT H' kvs xs :=
  Paired.mapP r fun _ _ z => ⟨z.1, ht _ _ z.2.1, z.2.2⟩

section
variable {P : Program} {w : World} {H : Hp} {h : Heap} {a : Addr}
theorem rd_of {u : HO} (ok : HOk P w H h) (e : Rd H a u) : ObjOk P w H h a u := e.ok ok
theorem dk_rd {kvs : List (Key × V)} (ok : HOk P w H h) (e : Rd H a (.dK kvs)) : kvs.length ≤ sizeLine ∧ (a == sysModules) = false ∧ ∃ vs, KV kvs vs ∧ h.DictOf (mixKind P w) a vs :=
  show ObjOk P w H h a (.dK kvs) from rd_of ok e
theorem dk_of {kvs : List (Key × V)} (ok : HOk P w H h) (e : H a = some (.dK kvs)) : kvs.length ≤ sizeLine ∧ (a == sysModules) = false ∧ ∃ vs, KV kvs vs ∧ h.DictOf (mixKind P w) a vs := dk_rd ok (.inl e)
/-- a tracked tuple of ints and texts is a key -/
theorem key_of {ks : List Key} (ok : HOk P w H h) (e : H a = some (.tup (ks.map kV))) : (tupleKind (mixKind P w)).is h ks a := by
  obtain ⟨_, its, r, o, h1, h2, n, h3⟩ := (show ObjOk P w H h a (.tup (ks.map kV)) from ok a _ e)
  exact ⟨o, its.toArray, n, h1, h2, h3, by simpa using items_are r⟩
theorem dt_rd {kvs : List (List Key × V)} (ok : HOk P w H h) (e : Rd H a (.dT kvs)) : kvs.length ≤ sizeLine ∧ (a == sysModules) = false ∧
    ∃ xs, KT H kvs xs ∧ h.DictOfH (tupleKind (mixKind P w)) a xs := by
  obtain ⟨z, y, xs, r, o, es, ep, h1, h2, h3, h4, h5⟩ := (show ObjOk P w H h a (.dT kvs) from rd_of ok e)
  refine ⟨z, y, xs, r, o, es, ep, h1, h2, h3, h4, fun x hx => ?_, h5⟩
  have all : ∀ {l : List (List Key × V)} {m : List (List Key × Addr × Value)}, KT H l m → ∀ x ∈ m, (tupleKind (mixKind P w)).is h x.1 x.2.1 := by
    intro l m q
    induction q with
    | nil => intro x hx; exact nomatch hx
    | @cons p q ps qs hq t ih =>
      intro x hx
      rcases List.mem_cons.mp hx with e | hx
      · subst e
        exact key_of ok (by rw [← hq.1]; exact hq.2.1)
      · exact ih x hx
  exact all r x hx
theorem dt_of {kvs : List (List Key × V)} (ok : HOk P w H h) (e : H a = some (.dT kvs)) : kvs.length ≤ sizeLine ∧ (a == sysModules) = false ∧
    ∃ xs, KT H kvs xs ∧ h.DictOfH (tupleKind (mixKind P w)) a xs := dt_rd ok (.inl e)
end

/-- what the dict at a holds at the key y -/
def DGet (H : Hp) (a : Addr) (y : V) (r : Option V) : Prop :=
  (∃ kvs k, Rd H a (.dK kvs) ∧ y = kV k ∧ r = valV kvs k) ∨ ∃ kvs k b, Rd H a (.dT kvs) ∧ y = .ref b ∧ H b = some (.tup (k.map kV)) ∧ r = valV kvs k
/-- the heap behind a[y] = v -/
def DPut (H : Hp) (a : Addr) (y v : V) (H' : Hp) : Prop :=
  (∃ kvs k, H a = some (.dK kvs) ∧ y = kV k ∧ kvs.length < sizeLine ∧ H' = upd H a (.dK (putK kvs k v))) ∨
  ∃ kvs k b, H a = some (.dT kvs) ∧ y = .ref b ∧ H b = some (.tup (k.map kV)) ∧ kvs.length < sizeLine ∧ H' = upd H a (.dT (putK kvs k v))
theorem DGet.t {H : Hp} {a b : Addr} {kvs : List (List Key × V)} {k : List Key} (e : H a = some (.dT kvs)) (eb : H b = some (.tup (k.map kV))) : DGet H a (.ref b) (valV kvs k) := .inr ⟨kvs, k, b, .inl e, rfl, eb, rfl⟩
theorem DPut.t {H : Hp} {a b : Addr} {kvs : List (List Key × V)} {k : List Key} {v : V} (e : H a = some (.dT kvs)) (eb : H b = some (.tup (k.map kV))) (hl : kvs.length < sizeLine) :
    DPut H a (.ref b) v (upd H a (.dT (putK kvs k v))) := .inr ⟨kvs, k, b, e, rfl, eb, hl, rfl⟩


section
variable {X : Cx} {pins : List (Addr × Obj)} {σ : St} {H : Hp} {s : Shared} {a : Addr} {y v : V} {u r : Value} {o : Option V} {A : Around} {E : Value → Shared → Prop}

theorem Inv.big (I : Inv X pins σ H s) : sysModules < s.heap.objs.size := by
  have h : mainGlobals < s.heap.objs.size := (I.mod.glob.keeps I.bk).lt
  exact Nat.lt_trans (by decide) h

/-- d[y], there -/
theorem d_getItem {Q : Value → Shared → Prop} (hu : A.units + 1 < cLine) (I : Inv X pins σ H s) (g : DGet H a y (some v)) (ry : RelV y u) (h : ∀ w' s', Inv X pins σ H s' → RelV v w' → Q w' s') :
    wpAny (model X.prog X.w) A (getItem (.ref a) u) Q E s := by
  rcases g with ⟨kvs, k, e, ey, l⟩ | ⟨kvs, k, b, e, ey, eb, l⟩
  · subst ey
    obtain ⟨z, hd, vs, rel, dd⟩ := dk_rd I.hok e
    obtain ⟨w', hw, rw'⟩ := RelO.some_of (v := v) (o := valueAt vs k) (by rw [l]; exact rel.val k)
    exact wpAny_getItem_of (kV_is ry) dd.mapOf hw (h w' _ (I.tok _) rw')
  · subst ey
    cases (show u = Value.ref b from ry)
    obtain ⟨z, hd, xs, rel, dd⟩ := dt_rd I.hok e
    obtain ⟨w', hw, rw'⟩ := RelO.some_of (v := v) (o := (atKey xs k).map (·.2)) (by rw [l]; exact rel.val k)
    obtain ⟨p, hp, hp2⟩ := Option.map_eq_some_iff.mp hw
    refine wpAny_getItem_heap (tupleKind_room_in1 hu) (key_of I.hok eb) dd hp ?_
    rw [hp2]
    exact h w' _ (I.tok _) rw'
/-- y in d -/
theorem d_in {Q : Value → Shared → Prop} (hu : A.units + 1 < cLine) (I : Inv X pins σ H s) (g : DGet H a y o) (ry : RelV y u) (h : ∀ s', Inv X pins σ H s' → Q (.bool o.isSome) s') :
    wpAny (model X.prog X.w) A (compareOp .In u (.ref a)) Q E s := by
  rcases g with ⟨kvs, k, e, ey, l⟩ | ⟨kvs, k, b, e, ey, eb, l⟩
  · subst ey
    obtain ⟨z, hd, vs, rel, dd⟩ := dk_rd I.hok e
    refine wpAny_in_of (kV_is ry) hd dd.mapOf ?_
    rw [← (rel.val k).isSome_eq, ← l]
    exact h _ (I.tok _)
  · subst ey
    cases (show u = Value.ref b from ry)
    obtain ⟨z, hd, xs, rel, dd⟩ := dt_rd I.hok e
    refine wpAny_in_heap (tupleKind_room_in1 hu) (key_of I.hok eb) hd dd ?_
    have q := (rel.val k).isSome_eq
    rw [Option.isSome_map] at q
    rw [← q, ← l]
    exact h _ (I.tok _)
/-- a dict's object is replaced -/
theorem d_write {h' : Heap} {t' : Nat} {ob : HO} (I : Inv X pins σ H s) (mu : Mut (H a)) (hs : Heap.SameBut a s.heap h') (he : ∃ q, h'.get? a = some q) (new : ObjOk X.prog X.w (upd H a ob) h' a ob) :
    Inv X pins σ (upd H a ob) { s with heap := h', toks := t' } :=
  I.write (x := a) (e := a) mu (.inl rfl) (fun b q hb z => (hs.2 b hb).trans z) he new
theorem dk_new {P : Program} {w : World} {H' : Hp} {h' : Heap} {kvs : List (Key × V)} {vs : List (Key × Value)} (z : kvs.length ≤ sizeLine) (hd : (a == sysModules) = false) (rel : KV kvs vs) (dd : h'.DictOf (mixKind P w) a vs) :
    ObjOk P w H' h' a (.dK kvs) := ⟨z, hd, vs, rel, dd⟩
/-- d[y] = v -/
theorem d_setItem {H' : Hp} {Q : Unit → Shared → Prop} (hu : A.units + 1 < cLine) (I : Inv X pins σ H s) (g : DPut H a y v H') (ry : RelV y u) (rv : RelV v r) (h : ∀ s', Inv X pins σ H' s' → Q () s') :
    wpAny (model X.prog X.w) A (setItem (.ref a) u r) Q E s := by
  rcases g with ⟨kvs, k, e, ey, l, eH⟩ | ⟨kvs, k, b, e, ey, eb, l, eH⟩
  · subst ey eH
    obtain ⟨z, hd, vs, rel, dd⟩ := dk_of I.hok e
    have hz : vs.length ≤ sizeLine := by rw [← rel.length]; exact z
    have hl : (putK kvs k v).length ≤ sizeLine := by have := length_putK kvs k v; omega
    refine wpAny_setItem_pairs (hsz := hz) (kV_is ry) dd fun h' dd' hs => h _ ?_
    have he : ∃ q, h'.get? a = some q := let ⟨q, _, _, hq, _⟩ := dd'; ⟨q, hq⟩
    exact d_write I (by rw [e]; exact True.intro) hs he (dk_new hl hd (rel.put k rv) dd')
  · subst ey eH
    cases (show u = Value.ref b from ry)
    obtain ⟨z, hd, xs, rel, dd⟩ := dt_of I.hok e
    have hz : xs.length ≤ sizeLine := by rw [← Paired.length rel]; exact z
    have hl : (putK kvs k v).length ≤ sizeLine := by have := length_putK kvs k v; omega
    refine wpAny_setItem_heap (hsz := hz) (tupleKind_room_in1 hu) (key_of I.hok eb) dd fun h' dd' hs => h _ ?_
    obtain ⟨q, es, ep, hq, h2, h3, h4, _, h5⟩ := dd'
    refine d_write I (by rw [e]; exact True.intro) hs ⟨q, hq⟩ ⟨hl, hd, _, (rel.put k eb rv).keeps fun c ys ec => ?_, q, es, ep, hq, h2, h3, h4, h5⟩
    rw [upd_ne (ne_of ec e (fun z => nomatch z))]
    exact ec
end

section
variable {X : Cx} {pins : List (Addr × Obj)} {σ : St} {H : Hp} {s : Shared} {a : Addr} {kvs : List (Key × V)} {k : Key} {u : Value} {A : Around} {E : Value → Shared → Prop}
end


/-! ### readings and rules -/
/-- the element of a subscription, not a slice -/
def NoSl (i : Expr) : Prop := ∀ ov iv, subscripted i false ov iv = operate [ov, iv] (getItem ov iv)
theorem subD_of {prog : Program} {w : World} {A : Around} {E : Value → Shared → Prop} {s : Shared} {env : Env} {value slice : Expr} {pos : Pos} {T id : String} {Q : Value → Shared → Prop}
    (hl : typeLookup (.type T) "__getitem__" = pure (some (.builtin id))) (hs : NoSl slice)
    (h : wpAny (model prog w) A (eval value env) (fun o s₁ => wpAny (model prog w) A (eval slice env) (fun i s₂ => s₂.TypeIs o T ∧ wpAny (model prog w) A (getItem o i) Q E s₂) E s₁) E s) :
    wpAny (model prog w) A (eval (.Subscript value slice pos) env) Q E s := by
  refine Subscript_ (wpAny_mono h (fun o s₁ h₁ => wpAny_mono h₁ (fun i s₂ h₂ => ?_) fun _ _ x => x) fun _ _ x => x)
  obtain ⟨hT, h₂⟩ := h₂
  unfold subscriptTail
  refine wpAny_bind ?_
  rw [getitemInPython_of_ne hT.not_modules]
  refine wpAny_bind (wpAny_specialOf hT hl ?_)
  have fin : wpAny (model prog w) A (subscripted slice false o i) (fun r s₃ => wpAny (model prog w) A (letTemporaryGo value o r >>= fun _ => pure r) Q E s₃) E s₂ := by
    rw [hs o i]
    exact wpAny_operating (wpAny_mono h₂ (fun r s₃ h₃ => wpAny_bind (wpAny_letTemporaryGo (wpAny_pure h₃))) fun _ _ x => x)
  first
    | exact wpAny_pure (wpAny_bind fin)
    | exact wpAny_bind (wpAny_pure (wpAny_bind fin))
    | exact wpAny_bind fin

theorem dict_typeIs {X : Cx} {pins : List (Addr × Obj)} {σ : St} {H : Hp} {s : Shared} {a : Addr} {y : V} {o : Option V} (I : Inv X pins σ H s) (g : DGet H a y o) : s.TypeIs (.ref a) "dict" := by
  rcases g with ⟨kvs, k, e, _, _⟩ | ⟨kvs, k, b, e, _, _, _⟩
  · obtain ⟨_, _, vs, _, dd⟩ := dk_rd I.hok e
    exact dd.typeIs
  · obtain ⟨_, _, xs, _, dd⟩ := dt_rd I.hok e
    exact dd.typeIs

/-- d[y] -/
def tDGet (td ty : TE) : TE := fun σ H Q => td σ H fun x H1 => ty σ H1 fun y H2 => ∃ a v, x = .ref a ∧ DGet H2 a y (some v) ∧ Q v H2
/-- y in d, y not in d -/
def tDIn (ty td : TE) : TE := fun σ H Q => ty σ H fun y H1 => td σ H1 fun x H2 => ∃ a o, x = .ref a ∧ DGet H2 a y o ∧ Q (.bl o.isSome) H2
/-- d[y] = v -/
def sDPut (td ty tv : TE) : TS := fun D σ H => tv σ H fun v H1 => td σ H1 fun x H2 => ty σ H2 fun y H3 => ∃ a H4, x = .ref a ∧ DPut H3 a y v H4 ∧ D.nx σ H4

section
variable {X : Cx} {o i e value : Expr} {pos pos' tpos : Pos} {td ty tv : TE}
theorem pe_dget (hu : X.A.units + 1 < cLine) (ho : PE X o td) (hi : PE X i ty) (hs : NoSl i) : PE X (.Subscript o i pos) (tDGet td ty) := by
  intro pins s σ H Q I h
  refine subD_of PySem.F.slot_dict_getitem.lookup hs (thn (ho pins s σ H _ I h) fun u s1 ⟨x, H1, I1, rx, q1⟩ => thn (hi pins s1 σ H1 _ I1 q1) fun iv s2 ⟨y, H2, I2, ry, a, v, ex, g, q2⟩ => ?_)
  subst ex
  obtain rfl : u = Value.ref a := rx
  exact ⟨dict_typeIs I2 g, d_getItem hu I2 g ry fun w' s3 I3 rw' => ⟨v, H2, I3, rw', q2⟩⟩
theorem pc_din (hu : X.A.units + 1 < cLine) (hi : PE X i ty) (ho : PE X o td) : PC X .In i o (tDIn ty td) := by
  intro pins s σ H Q I h
  refine thn (hi pins s σ H _ I h) fun iv s1 ⟨y, H1, I1, ry, q1⟩ => thn (ho pins s1 σ H1 _ I1 q1) fun u s2 ⟨x, H2, I2, rx, a, ov, ex, g, q2⟩ => ?_
  subst ex
  obtain rfl : u = Value.ref a := rx
  exact d_in hu I2 g ry fun s3 I3 => ⟨.bl ov.isSome, H2, I3, rfl, q2⟩
theorem ps_dput (hu : X.A.units + 1 < cLine) (ho : PE X o td) (hi : PE X i ty) (hv : PE X value tv) (hs : swapsWith value (some (.Subscript o i pos')) pos.line X.env = pure false) :
    PS X (.Assign [.Subscript o i pos'] value pos) (sDPut td ty tv) := by
  intro pins s σ H D I h
  refine wpAny_Assign_Subscript (thn (hv pins s σ H _ I h) fun r s1 ⟨v, H1, I1, rv, q1⟩ => thn (ho pins s1 σ H1 _ I1 q1) fun u s2 ⟨x, H2, I2, rx, q2⟩ => thn (hi pins s2 σ H2 _ I2 q2) fun iv s3 ⟨y, H3, I3, ry, a, H4, ex, g, q3⟩ => ?_) hs
  subst ex
  obtain rfl : u = Value.ref a := rx
  exact d_setItem hu I3 g ry rv fun s4 I4 => ⟨σ, H4, I4, q3⟩
end


/-! ### displays -/
theorem dt_empty {P : Program} {w : World} {H : Hp} (h : Heap) (hb : sysModules < h.objs.size) : ObjOk P w H (h.push { cls := .type "dict", data := .dict #[] }) h.objs.size (.dT []) :=
  ⟨Nat.zero_le _, beq_eq_false_iff_ne.mpr (Ne.symm (Nat.ne_of_lt hb)), [], .nil, _, #[], 0, Heap.get?_push_size _ rfl, ⟨rfl, rfl, rfl⟩, rfl, rfl, List.nodup_nil⟩
def tDNewT : TE := fun _ H Q => ∀ p, H p = none → Q (.ref p) (upd H p (.dT []))
section
variable {X : Cx} {pos : Pos}
theorem pe_dnewT : PE X (.Dict [] [] pos) tDNewT := fun pins s σ H Q I h =>
  wpAny_Dict_empty ⟨.ref s.heap.objs.size, _, I.laid (a := s.heap.objs.size) (o := .dT []) (t' := s.toks) (fun _ _ q => Heap.get?_push_of_some _ q) (Nat.le_refl _) (dt_empty s.heap I.big), rfl, h _ (I.hok.fresh (Nat.le_refl _))⟩
end




/-! ### methods -/
/-- a method call o.m(e) of a built-in, with one argument: what must be seen of the text -/
structure M1 (X : Cx) (o : Expr) (m : Str) (apos : Pos) (e : Expr) (cpos : Pos) : Prop where
  base : attributeBase o m X.env (eval o X.env) = eval o X.env
  few : ((backTo cpos (starEach [e] X.env)).all (fun x => !x.1) && (backToKw cpos (keywordEach [] X.env)).all (fun x => x.1.isSome)
    && decide (([e] : List Expr).length + ([] : List Keyword).length + (if ([] : List Keyword).isEmpty then 0 else 1) < 30)) = true
  line : (apos.endLine == cpos.line) = true
  trees : backTo cpos (starEach [e] X.env) = [(false, eval e X.env)]
structure M2 (X : Cx) (o : Expr) (m : Str) (apos : Pos) (e f : Expr) (cpos : Pos) : Prop where
  base : attributeBase o m X.env (eval o X.env) = eval o X.env
  few : ((backTo cpos (starEach [e, f] X.env)).all (fun x => !x.1) && (backToKw cpos (keywordEach [] X.env)).all (fun x => x.1.isSome)
    && decide (([e, f] : List Expr).length + ([] : List Keyword).length + (if ([] : List Keyword).isEmpty then 0 else 1) < 30)) = true
  line : (apos.endLine == cpos.line) = true
  trees : backTo cpos (starEach [e, f] X.env) = [(false, eval e X.env), (false, eval f X.env)]

/-- a is a dict, whatever its keys -/
def IsD (H : Hp) (a : Addr) : Prop := (∃ kvs, Rd H a (.dK kvs)) ∨ ∃ kvs, Rd H a (.dT kvs)
theorem isD_at {X : Cx} {pins : List (Addr × Obj)} {σ : St} {H : Hp} {s : Shared} {a : Addr} (I : Inv X pins σ H s) (d : IsD H a) :
    s.TypeIs (.ref a) "dict" ∧ (∀ b, Value.ref a = .ref b → ∃ ob, s.heap.get? b = some ob ∧ ob.dict = none) ∧ (a == sysModules) = false := by
  rcases d with ⟨kvs, e⟩ | ⟨kvs, e⟩
  · obtain ⟨_, hd, vs, _, dd⟩ := dk_rd I.hok e
    refine ⟨dd.typeIs, fun b q => ?_, hd⟩
    cases q
    obtain ⟨ob, _, _, h1, h2, _⟩ := dd
    exact ⟨ob, h1, h2.2.1⟩
  · obtain ⟨_, hd, xs, _, dd⟩ := dt_rd I.hok e
    refine ⟨dd.typeIs, fun b q => ?_, hd⟩
    cases q
    obtain ⟨ob, _, _, h1, h2, _⟩ := dd
    exact ⟨ob, h1, h2.2.1⟩

section
variable {X : Cx} {pins : List (Addr × Obj)} {σ : St} {H : Hp} {s : Shared} {a : Addr} {y d : V} {u r : Value} {o : Option V} {A : Around} {E : Value → Shared → Prop}
end

section
variable {X : Cx} {o e f : Expr} {apos cpos : Pos} {td ty tx : TE}
end

/-! ### dict(d): a copy -/
section
variable {X : Cx} {pins : List (Addr × Obj)} {σ : St} {H : Hp} {s : Shared} {a : Addr} {kvs : List (Key × V)} {A : Around} {E : Value → Shared → Prop}
end


section
variable {X : Cx} {pins : List (Addr × Obj)} {σ : St} {H : Hp} {s : Shared} {a : Addr} {y : V} {u : Value} {A : Around} {E : Value → Shared → Prop}
end
end L2

namespace L2
open PySem PySem.Spec PyProof.Rows


section
variable {prog : Program} {w : World} {A : Around} {E : Value → Shared → Prop}


end

section
variable {X : Cx}
end
end L2

namespace L2
open PySem PySem.Spec PyProof.Rows

theorem boot_reversed5 : bootBuiltins "reversed" = some (.type "reversed") := by decide +kernel

section
variable {X : Cx} {pins : List (Addr × Obj)} {σ : St} {H : Hp} {s : Shared} {h' : Heap}

/-! ### locking a thing while a statement runs -/
theorem Inv.lock {d : Addr} {u : HO} (I : Inv X pins σ H s) (h : H d = some u) (mu : Mut (some u)) : ∃ od, Inv X pins σ (upd H d (.frz od u)) s := by
  have x := I.hok d u h
  have ex : ∃ od, s.heap.get? d = some od := by
    cases u with
    | lst xs => obtain ⟨_, _, _, _, e⟩ := x; exact ⟨_, e⟩
    | dK kvs => obtain ⟨_, _, _, _, o, _, _, e, _⟩ := x; exact ⟨o, e⟩
    | dT kvs => obtain ⟨_, _, _, _, o, _, _, e, _⟩ := x; exact ⟨o, e⟩
    | set S n => obtain ⟨o, _, _, _, e, _⟩ := x; exact ⟨o, e⟩
    | ins C dx fs => obtain ⟨_, _, _, e, _⟩ := x; exact ⟨_, e⟩
    | ext φ => obtain ⟨_, ⟨_, e⟩, _⟩ := x; exact ⟨_, e⟩
    | _ => exact False.elim mu
  obtain ⟨od, e⟩ := ex
  have new : ObjOk X.prog X.w (upd H d (.frz od u)) s.heap d (.frz od u) := by
    refine ⟨e, x.stay (fun b v _ q => q) (fun b q => ?_) fun b xs q => ?_⟩
    · rw [upd_ne (fun z => by rw [z, h] at q; cases q; exact mu)]; exact q
    · rw [upd_ne (fun z => by rw [z, h] at q; cases q; exact mu)]; exact q
  exact ⟨od, I.write (x := d) (e := d) (t' := s.toks) (h' := s.heap) (by rw [h]; exact mu) (.inl rfl) (fun b v _ q => q) ⟨od, e⟩ new⟩
theorem Inv.nofrz {d : Addr} {u : HO} (I : Inv X pins σ H s) (h : H d = some u) (mu : Mut (some u)) : ∀ o' u', X.H_0 d ≠ some (.frz o' u') := fun o' u' e => by
  have q := I.base.frzs d o' u' e
  rw [h] at q
  cases q
  exact mu
theorem Inv.unlock {d : Addr} {od : Obj} {u : HO} (I : Inv X pins σ H s) (h : H d = some (.frz od u)) (hn : ∀ o' u', X.H_0 d ≠ some (.frz o' u')) : Inv X pins σ (upd H d u) s := by
  have neH : ∀ b o, H b = some o → (∀ o' u', o ≠ .frz o' u') → b ≠ d := fun b o e hne z => by
    rw [z, h] at e
    cases e
    exact hne _ _ rfl
  have neN : ∀ b, H b = none → b ≠ d := fun b e z => by rw [z, h] at e; cases e
  refine ⟨I.ok, I.os, I.bare, ⟨I.base.keep, I.base.slot, fun b o e n hx => ?_, I.base.there, fun b xs e => ?_, fun b o x e => ?_, fun b ps e => ?_⟩, I.loc, I.cell, ?_, fun x c e => ?_, fun p hp => ?_, fun b o e => ?_, I.len⟩
  · rw [upd_ne (neN b (I.base.free b o e n hx))]; exact I.base.free b o e n hx
  · have q := I.base.tups b xs e
    rw [upd_ne (neH b _ q (fun _ _ z => nomatch z))]; exact q
  · have q := I.base.frzs b o x e
    rw [upd_ne (fun z => by rw [z] at e; exact hn _ _ e)]; exact q
  · obtain ⟨m, q⟩ := I.base.tbls b ps e
    exact ⟨m, by rw [upd_ne (neH b _ q (fun _ _ z => nomatch z))]; exact q⟩
  · rw [upd_ne (neN _ I.free)]; exact I.free
  · rw [upd_ne (neN c (I.freeC x c e))]; exact I.freeC x c e
  · obtain ⟨e, n, r⟩ := I.pin p hp
    exact ⟨e, by rw [upd_ne (neN _ n)]; exact n, r⟩
  · by_cases hb : b = d
    · rw [hb, upd_same] at e
      cases e
      rw [hb]
      obtain ⟨_, x⟩ := I.hok d _ h
      exact x.stay (fun c v _ q => q) (fun c q => by rw [upd_ne (neH c _ q (fun _ _ z => nomatch z))]; exact q) fun c xs q => by rw [upd_ne (neH c _ q (fun _ _ z => nomatch z))]; exact q
    · rw [upd_ne hb] at e
      exact (I.hok b o e).stay (fun c v _ q => q) (fun c q => by rw [upd_ne (neH c _ q (fun _ _ z => nomatch z))]; exact q) fun c xs q => by rw [upd_ne (neH c _ q (fun _ _ z => nomatch z))]; exact q
end
/-- the statement runs while the thing at d is locked (read, not written); d and what stands there are the reading's choice -/
def tLock (t : TS) : TS := fun D σ H => ∃ d u, H d = some u ∧ Mut (some u) ∧ ∀ od, t ⟨fun σ' H' => H' d = some (.frz od u) ∧ D.nx σ' (upd H' d u), fun v H' => H' d = some (.frz od u) ∧ D.rt v (upd H' d u), fun σ' H' => H' d = some (.frz od u) ∧ D.bk σ' (upd H' d u), fun σ' H' => H' d = some (.frz od u) ∧ D.ct σ' (upd H' d u)⟩ σ (upd H d (.frz od u))
section
variable {X : Cx}
theorem ps_lock {st : Stmt} {t : TS} (h : PS X st t) : PS X st (tLock t) := by
  intro pins s σ H D I hw
  obtain ⟨d, u, hd, mu, hw⟩ := hw
  obtain ⟨od, I1⟩ := I.lock hd mu
  refine thn (h pins s σ _ _ I1 (hw od)) fun f s1 q => ?_
  cases f with
  | next => obtain ⟨σ', H', I2, e, q⟩ := q; exact ⟨σ', _, I2.unlock e (I.nofrz hd mu), q⟩
  | brk => obtain ⟨σ', H', I2, e, q⟩ := q; exact ⟨σ', _, I2.unlock e (I.nofrz hd mu), q⟩
  | cont => obtain ⟨σ', H', I2, e, q⟩ := q; exact ⟨σ', _, I2.unlock e (I.nofrz hd mu), q⟩
  | ret v => obtain ⟨x, σ', H', I2, r, e, q⟩ := q; exact ⟨x, σ', _, I2.unlock e (I.nofrz hd mu), r, q⟩

/-! ### one iterator just laid -/
theorem pi_one {tg : Expr} {pins : List (Addr × Obj)} {σ : St} {H : Hp} {s : Shared} {R : It → Hp → Prop} {J : It} {tn : Nat → Heap → Prop} {tk : Nat} (I : Inv X pins σ H s) (o : Obj)
    (T : Turn X.prog X.w X.K tg J [s.heap.objs.size] s.heap.objs.size tn) (st : tn 0 (s.heap.push o)) (q : R J H) : PIE X pins σ tg R (.ref s.heap.objs.size) { s with heap := s.heap.push o, toks := tk } := by
  refine ⟨s.heap.objs.size, [s.heap.objs.size], tn, J, H, rfl, I.kept fun b ob e => Heap.get?_push_of_some _ e, T, st, fun b hb => ?_, q⟩
  have e : b = s.heap.objs.size := by simpa using hb
  subst e
  exact I.fpOk (Nat.le_refl _) (I.hok.fresh (Nat.le_refl _))
end

/-! ### range with a step -/
section
variable {X : Cx} {tg : Expr}
end

/-! ### reversed(list) -/
section
variable {X : Cx} {tg : Expr}
end

/-! ### a str -/

/-! ### a dict's keys: any dict's entries -/
section
variable {prog : Program} {w : World} {A : Around} {E : Value → Shared → Prop} {s : Shared}
theorem iter_keys {d : Addr} {o : Obj} {es : Array DictEntry} {ep : Nat} {Q : Value → Shared → Prop} (hd : (d == sysModules) = false) (ho : s.heap.get? d = some o) (hc : o.ExactDict) (hdat : o.data = .dict es ep)
    (hQ : Q (.ref s.heap.objs.size) { s with heap := s.heap.push { cls := .type "dict_keyiterator", data := .fields #[.ref d, .int 0 0, .int es.size 0, .int ep 0] } }) :
    wpAny (model prog w) A (pyIter (.ref d)) Q E s := by
  have hT : s.TypeIs (.ref d) "dict" := ⟨o, ho, hc.1⟩
  refine wpAny_pyIter_slot hT F.slot_dict_iter (wpAny_call_entry F.slot_dict_iter hT F.entry_dict_iter ?_ (F.args_dict_iter_1 _))
  unfold Builtin.«dict.__iter__»
  refine wpAny_bind ?_
  unfold Builtin.Dict.dictSlotNone
  refine wpAny_bind (wpAny_notOrdered_dict hT ?_)
  show wpAny _ _ (pure (Value.ref d)) _ _ s
  refine wpAny_pure ?_
  show wpAny _ _ (Builtin.Dict.showsAll d >>= _) _ _ s
  unfold Builtin.Dict.showsAll
  rw [if_neg (by rw [hd]; exact Bool.false_ne_true)]
  refine wpAny_bind (wpAny_pure ?_)
  refine wpAny_bind (wpAny_dictEntries ho hdat ?_)
  refine wpAny_bind (wpAny_dictEpoch ho hdat ?_)
  refine wpAny_bind (wpAny_newObj_type (wpAny_pure ⟨_, rfl, "dict_keyiterator", _, ⟨_, Heap.get?_push_size _ rfl, rfl⟩, F.slot_dict_keyiterator_next.lookup, ?_⟩))
  simpa [rawInt] using hQ
theorem next_key_item {it d : Addr} {i n ep : Nat} {od : Obj} {es : Array DictEntry} {en : DictEntry} {Q : Option Value → Shared → Prop} (hit : s.heap.IsKeyIter it d i n ep) (hod : s.heap.get? d = some od) (hdd : od.data = .dict es ep)
    (hsz : es.size = n) (hx : es[i]? = some en) (hQ : ∀ h', h'.IsKeyIter it d (i + 1) n ep → Heap.SameBut it s.heap h' → Q (some en.key) { s with heap := h' }) : wpAny (model prog w) A (pyNext (.ref it)) Q E s := by
  obtain ⟨o, ho, hc, hd⟩ := id hit
  unfold pyNext
  refine wpAny_bind (wpAny_attempt (wpAny_callSpecial?_slot (name := Str.ofString "__next__") hit.typeIs F.slot_dict_keyiterator_next
    (wpAny_call_entry F.slot_dict_keyiterator_next hit.typeIs F.entry_dict_keyiterator_next ?_ (F.args_dict_keyiterator_next_1 _))))
  refine wpAny_bind (wpAny_pure ?_)
  refine wpAny_bind ?_
  refine wpAny_bind ?_
  first | refine wpAny_bind (wpAny_typeNameOfWhole_keyiter hit.typeIs (wpAny_pure ?_)) | refine wpAny_bind (wpAny_typeNameOf_keyiter hit.typeIs (wpAny_pure ?_))
  refine wpAny_bind (wpAny_fieldsOf ho hd ?_)
  have hown : Builtin.Dict_items.ownsTuple "dict_keyiterator" = false := by decide
  simp only [hown, Bool.false_eq_true, if_false]
  show wpAny _ _ (if (Value.ref d == Value.none) = true then _ else _) _ _ s
  rw [if_neg (show ¬ ((Value.ref d == Value.none) = true) from Bool.false_ne_true)]
  refine wpAny_bind (wpAny_pure ?_)
  refine wpAny_bind (wpAny_dictEntries hod hdd ?_)
  rw [if_neg (by rw [hsz]; simp)]
  refine wpAny_bind (wpAny_pure ?_)
  refine wpAny_bind (wpAny_dictEpoch hod hdd ?_)
  rw [if_neg (by simp)]
  refine wpAny_pure ?_
  obtain ⟨hlt', hen⟩ := Array.getElem?_eq_some_iff.mp hx
  simp only [show ¬ ((i : Int) < 0) from by omega, if_false, Int.toNat_natCast, Array.getElem?_eq_getElem hlt']
  refine wpAny_bind ?_
  first | refine wpAny_bind (wpAny_typeNameOfWhole_keyiter hit.typeIs (wpAny_pure ?_)) | refine wpAny_bind (wpAny_typeNameOf_keyiter hit.typeIs (wpAny_pure ?_))
  refine wpAny_bind (wpAny_isOneOf_keyiter hit.typeIs ?_)
  show wpAny _ _ (setField (.ref it) 1 (rawInt ((i : Int) + 1)) >>= _) _ _ s
  refine wpAny_bind (wpAny_setField ho hd (by simp) ?_)
  have hit' : (s.heap.update it (Obj.mapFields (·.setIfInBounds 1 (rawInt ((i : Int) + 1))))).IsKeyIter it d (i + 1) n ep :=
    ⟨_, Heap.get?_update_self _ ho (Obj.isFreed_of_fields (Obj.data_mapFields hd _)), (Obj.cls_mapFields ..).trans hc, by rw [Obj.data_mapFields hd]; simp [rawInt]⟩
  refine wpAny_bind (wpAny_holding ?_)
  refine wpAny_bind (wpAny_isOneOf_keyiter (s := { s with heap := s.heap.update it (Obj.mapFields (·.setIfInBounds 1 (rawInt ((i : Int) + 1)))) }) hit'.typeIs ?_)
  show wpAny _ _ (pure es[i].key) _ _ _
  rw [hen]
  exact wpAny_pure (wpAny_pure ⟨_, rfl, wpAny_pure (hQ _ hit' (Heap.SameBut.update ..))⟩)
theorem next_key_end {it d : Addr} {i n ep : Nat} {od : Obj} {es : Array DictEntry} {Q : Option Value → Shared → Prop} (hh : A.handled = none) (hit : s.heap.IsKeyIter it d i n ep) (hod : s.heap.get? d = some od) (hdd : od.data = .dict es ep)
    (hsz : es.size = n) (hge : n ≤ i) (hQ : ∀ h', Heap.ExtBut it s.heap h' → Q none { s with heap := h' }) : wpAny (model prog w) A (pyNext (.ref it)) Q E s := by
  obtain ⟨o, ho, hc, hd⟩ := id hit
  unfold pyNext
  refine wpAny_bind (wpAny_attempt (wpAny_callSpecial?_slot (name := Str.ofString "__next__") hit.typeIs F.slot_dict_keyiterator_next
    (wpAny_call_entry F.slot_dict_keyiterator_next hit.typeIs F.entry_dict_keyiterator_next ?_ (F.args_dict_keyiterator_next_1 _))))
  refine wpAny_bind (wpAny_pure ?_)
  refine wpAny_bind ?_
  refine wpAny_bind ?_
  first | refine wpAny_bind (wpAny_typeNameOfWhole_keyiter hit.typeIs (wpAny_pure ?_)) | refine wpAny_bind (wpAny_typeNameOf_keyiter hit.typeIs (wpAny_pure ?_))
  refine wpAny_bind (wpAny_fieldsOf ho hd ?_)
  have hown : Builtin.Dict_items.ownsTuple "dict_keyiterator" = false := by decide
  simp only [hown, Bool.false_eq_true, if_false]
  show wpAny _ _ (if (Value.ref d == Value.none) = true then _ else _) _ _ s
  rw [if_neg (show ¬ ((Value.ref d == Value.none) = true) from Bool.false_ne_true)]
  refine wpAny_bind (wpAny_pure ?_)
  refine wpAny_bind (wpAny_dictEntries hod hdd ?_)
  rw [if_neg (by rw [hsz]; simp)]
  refine wpAny_bind (wpAny_pure ?_)
  refine wpAny_bind (wpAny_dictEpoch hod hdd ?_)
  rw [if_neg (by simp)]
  refine wpAny_pure ?_
  have hge' : es.size ≤ i := by rw [hsz]; exact hge
  simp only [show ¬ ((i : Int) < 0) from by omega, if_false, Int.toNat_natCast, Array.getElem?_eq_none hge']
  refine wpAny_bind ?_
  first | refine wpAny_bind (wpAny_typeNameOfWhole_keyiter hit.typeIs (wpAny_pure ?_)) | refine wpAny_bind (wpAny_typeNameOf_keyiter hit.typeIs (wpAny_pure ?_))
  show wpAny _ _ (setField (.ref it) 0 .none >>= _) _ _ s
  refine wpAny_bind (wpAny_setField ho hd (by simp) ?_)
  show wpAny _ _ (newExc (.type "StopIteration") [] >>= _) _ _ _
  refine wpAny_bind ?_
  simp only [newExc, newTuple]
  refine wpAny_bind (wpAny_newObj_type ?_ (by size_fits))
  refine wpAny_bind (m := firstArgMember _ _) (wpAny_of_eq (a := Value.none) (by first | rfl | (simp only [firstArgMember]; rfl)) ?_)
  refine wpAny_newObj_type ?_ (by size_fits)
  simp only [raiseNew]
  refine wpAny_bind (wpAny_handled ?_)
  rw [show A.in1.handled = none from hh]
  refine wpAny_bind (wpAny_pure (wpAny_throw ?_))
  refine wpAny_bind (wpAny_isInstance (T := "StopIteration") (b := true) ⟨_, Heap.get?_push_size _ rfl, rfl⟩ isSubtype_stop ?_)
  exact wpAny_pure (hQ _ (((Heap.SameBut.update ..).extBut.push _).push _))
end

/-! ### a locked dict -/
theorem kv_get {κ : Type} {kvs : List (κ × V)} {vs : List (κ × Value)} (h : KV kvs vs) : ∀ {i : Nat} {k : κ} {v : V}, kvs[i]? = some (k, v) → ∃ u, vs[i]? = some (k, u) ∧ RelV v u := by
  unfold KV at h
  induction h with
  | nil => intro i k v e; simp at e
  | @cons a b l₁ l₂ r t ih =>
    intro i k v e
    cases i with
    | zero =>
      simp only [List.getElem?_cons_zero, Option.some.injEq] at e
      subst e
      refine ⟨b.2, ?_, r.2⟩
      simp only [List.getElem?_cons_zero]
      exact congrArg some (Prod.ext r.1.symm rfl)
    | succ j =>
      simp only [List.getElem?_cons_succ] at e ⊢
      exact ih e
theorem paired_get {α β : Type} {G : α → β → Prop} {l₁ : List α} {l₂ : List β} (h : Paired G l₁ l₂) : ∀ {i : Nat} {a : α}, l₁[i]? = some a → ∃ b, l₂[i]? = some b ∧ G a b := by
  induction h with
  | nil => intro i a e; simp at e
  | @cons a b l₁ l₂ r t ih =>
    intro i a' e
    cases i with
    | zero =>
      simp only [List.getElem?_cons_zero, Option.some.injEq] at e
      subst e
      exact ⟨b, rfl, r⟩
    | succ j =>
      simp only [List.getElem?_cons_succ] at e ⊢
      exact ih e
theorem relV_key {k : Key} {u : Value} (h : keyIs k u = true) : RelV (kV k) u := by
  rcases keyIs_shape h with ⟨i, t, rfl, rfl⟩ | ⟨x, t, rfl, rfl⟩
  · exact ⟨t, rfl⟩
  · exact ⟨t, rfl⟩
section
variable {X : Cx} {pins : List (Addr × Obj)} {σ : St} {H : Hp} {s : Shared} {d : Addr} {o : Obj}
theorem Inv.frzK {kvs : List (Key × V)} (I : Inv X pins σ H s) (h : H d = some (.frz o (.dK kvs))) :
    (d == sysModules) = false ∧ s.heap.get? d = some o ∧ o.ExactDict ∧ ∃ (es : Array DictEntry) (ep : Nat) (vs : List (Key × Value)), o.data = .dict es ep ∧ es.size = kvs.length ∧ KV kvs vs ∧ s.heap.DictAt (mixKind X.prog X.w) d vs ep := by
  obtain ⟨hd, z, hs, vs, kv, o', es, ep, ho, hx, hdt, r⟩ := I.hok d _ h
  rw [hd] at ho
  cases ho
  refine ⟨hs, hd, hx, es, ep, vs, hdt, ?_, kv, o, es, hd, hx, hdt, r⟩
  have l1 := r.2.1.length
  have l2 : kvs.length = vs.length := Paired.length kv
  rw [Array.length_toList] at l1
  omega
/-- the same for tuple keys -/
theorem Inv.frzT {kvs : List (List Key × V)} (I : Inv X pins σ H s) (h : H d = some (.frz o (.dT kvs))) :
    (d == sysModules) = false ∧ s.heap.get? d = some o ∧ o.ExactDict ∧ ∃ (es : Array DictEntry) (ep : Nat), o.data = .dict es ep ∧ es.size = kvs.length ∧
      ∀ (i : Nat) (k : List Key) (v : V), kvs[i]? = some (k, v) → ∃ (en : DictEntry) (q : Addr), es[i]? = some en ∧ en.key = .ref q ∧ H q = some (.tup (k.map kV)) := by
  obtain ⟨hd, z, hs, xs, pr, o', es, ep, ho, hx, hdt, he, _⟩ := I.hok d _ h
  rw [hd] at ho
  cases ho
  refine ⟨hs, hd, hx, es, ep, hdt, ?_, fun i k v e => ?_⟩
  · have l1 : es.size = xs.length := size_of_entries he
    have l2 : kvs.length = xs.length := Paired.length pr
    omega
  · obtain ⟨b, hb, e1, e2, _⟩ := paired_get pr e
    have q := entry_at he i
    rw [hb] at q
    exact ⟨_, b.2.1, q, rfl, e2⟩
end

/-- the keys of the locked dict at d, in their order -/
def Itk (d : Addr) (o : Obj) (kvs : List (Key × V)) : It :=
  ⟨fun i H => H d = some (.frz o (.dK kvs)) ∧ i < kvs.length, fun i H x H' => H' = H ∧ ∃ k v, kvs[i]? = some (k, v) ∧ x = kV k, fun i H => H d = some (.frz o (.dK kvs)) ∧ kvs.length ≤ i⟩
/-- .. of tuple keys: the key's own tuple -/
def Itkt (d : Addr) (o : Obj) (kvs : List (List Key × V)) : It :=
  ⟨fun i H => H d = some (.frz o (.dT kvs)) ∧ i < kvs.length, fun i H x H' => H' = H ∧ ∃ (k : List Key) (v : V) (q : Addr), kvs[i]? = some (k, v) ∧ x = .ref q ∧ H q = some (.tup (k.map kV)), fun i H => H d = some (.frz o (.dT kvs)) ∧ kvs.length ≤ i⟩
theorem dict_ep {o : Obj} {es es' : Array DictEntry} {ep ep' : Nat} (h : o.data = .dict es ep) (h' : o.data = .dict es' ep') : es' = es ∧ ep' = ep := by
  rw [h] at h'
  cases h'
  exact ⟨rfl, rfl⟩
section
variable {P : Program} {w : World} {K : PySem.W.Frag} {tg : Expr} {d : Addr} {o : Obj} {es : Array DictEntry} {ep : Nat}
theorem turn_keys {kvs : List (Key × V)} (it : Addr) (hod : o.data = .dict es ep) : Turn P w K tg (Itk d o kvs) [it] it (fun i h => h.IsKeyIter it d i kvs.length ep) where
  mem := by simp
  obj := fun i h st b hb => by
    have e : b = it := by simpa using hb
    subst e
    obtain ⟨oi, e, c, dd⟩ := st
    exact ⟨oi, e, fun v z => by rw [dd] at z; cases z⟩
  keep := fun i h h' st k => st.at fun oi e => k it (by simp) oi e
  item := by
    intro X hP hw hK hc i pins s σ H E I hf st hg
    subst hP hw hK
    obtain ⟨hd, hi⟩ := hg
    obtain ⟨f0, f1, f2, f3, f4, f5⟩ := hf it (by simp)
    obtain ⟨hs, hgd, hx, es', ep', vs, hdt, hsz, kv, hm⟩ := I.frzK hd
    obtain ⟨rfl, rfl⟩ := dict_ep hod hdt
    obtain ⟨⟨k, v⟩, hkv⟩ : ∃ p, kvs[i]? = some p := ⟨kvs[i], List.getElem?_eq_getElem hi⟩
    obtain ⟨u, hu, ru⟩ := kv_get kv hkv
    have hl : kvs.length = vs.length := Paired.length kv
    rw [hl] at st
    refine wpAny_pyNext_dict_item st hm hu fun key h' hkey st' sb => ?_
    have I1 : Inv X pins σ H { s with heap := h' } := I.turned (t' := s.toks) (fun b ob hb e => (sb.2 b hb).trans e) f0 f1 f3 f4 f5
    obtain ⟨oi, e, c, dd⟩ := id st'
    refine ⟨key, rfl, go_of (s := { s with heap := h' }) e c dd (by decide) ⟨kV k, H, I1, relV_key (show keyIs k key = true from hkey), ⟨rfl, k, v, hkv, rfl⟩, ?_, fun b hb => (hf b hb).1⟩⟩
    show h'.IsKeyIter it d (i + 1) kvs.length _
    rw [hl]
    exact st'
  done := by
    intro X hP hw hK hc i pins s σ H E I hf st hg
    subst hP hw hK
    obtain ⟨hd, hi⟩ := hg
    obtain ⟨f0, f1, f2, f3, f4, f5⟩ := hf it (by simp)
    obtain ⟨hs, hgd, hx, es', ep', vs, hdt, hsz, kv, hm⟩ := I.frzK hd
    obtain ⟨rfl, rfl⟩ := dict_ep hod hdt
    exact next_key_end (I.ok.hd hc) st hgd hdt hsz hi fun h' eb => ⟨rfl, I.turned (t' := s.toks) (fun b ob hb e => eb b ob hb e) f0 f1 f3 f4 f5⟩
  self := fun A i s Q E st h => wpAny_pyIter_keyiter st h
theorem turn_keysT {kvs : List (List Key × V)} (it : Addr) (hod : o.data = .dict es ep) : Turn P w K tg (Itkt d o kvs) [it] it (fun i h => h.IsKeyIter it d i kvs.length ep) where
  mem := by simp
  obj := fun i h st b hb => by
    have e : b = it := by simpa using hb
    subst e
    obtain ⟨oi, e, c, dd⟩ := st
    exact ⟨oi, e, fun v z => by rw [dd] at z; cases z⟩
  keep := fun i h h' st k => st.at fun oi e => k it (by simp) oi e
  item := by
    intro X hP hw hK hc i pins s σ H E I hf st hg
    subst hP hw hK
    obtain ⟨hd, hi⟩ := hg
    obtain ⟨f0, f1, f2, f3, f4, f5⟩ := hf it (by simp)
    obtain ⟨hs, hgd, hx, es', ep', hdt, hsz, ent⟩ := I.frzT hd
    obtain ⟨rfl, rfl⟩ := dict_ep hod hdt
    obtain ⟨⟨k, v⟩, hkv⟩ : ∃ p, kvs[i]? = some p := ⟨kvs[i], List.getElem?_eq_getElem hi⟩
    obtain ⟨en, q, hen, hkey, hq⟩ := ent i k v hkv
    refine next_key_item st hgd hdt hsz hen fun h' st' sb => ?_
    have I1 : Inv X pins σ H { s with heap := h' } := I.turned (t' := s.toks) (fun b ob hb e => (sb.2 b hb).trans e) f0 f1 f3 f4 f5
    obtain ⟨oi, e, c, dd⟩ := id st'
    exact ⟨en.key, rfl, go_of (s := { s with heap := h' }) e c dd (by decide) ⟨.ref q, H, I1, hkey, ⟨rfl, k, v, q, hkv, rfl, hq⟩, st', fun b hb => (hf b hb).1⟩⟩
  done := by
    intro X hP hw hK hc i pins s σ H E I hf st hg
    subst hP hw hK
    obtain ⟨hd, hi⟩ := hg
    obtain ⟨f0, f1, f2, f3, f4, f5⟩ := hf it (by simp)
    obtain ⟨hs, hgd, hx, es', ep', hdt, hsz, ent⟩ := I.frzT hd
    obtain ⟨rfl, rfl⟩ := dict_ep hod hdt
    exact next_key_end (I.ok.hd hc) st hgd hdt hsz hi fun h' eb => ⟨rfl, I.turned (t' := s.toks) (fun b ob hb e => eb b ob hb e) f0 f1 f3 f4 f5⟩
  self := fun A i s Q E st h => by
    refine wpAny_pyIter_slot st.typeIs F.slot_dict_keyiterator_iter (wpAny_call_entry F.slot_dict_keyiterator_iter st.typeIs F.entry_dict_keyiterator_iter ?_ (F.args_dict_keyiterator_iter_1 _))
    show wpAny _ _ (ret (.ref it)) _ _ s
    exact wpAny_pure ⟨_, rfl, "dict_keyiterator", _, st.typeIs, F.slot_dict_keyiterator_next.lookup, h⟩
end

/-! ### for k in d, d.keys(), d.values(), d.items() -/
/-- the dict is locked (tLock, or by the caller) -/
def iKeys (td : TE) : TI := fun σ H R => td σ H fun x H1 => ∃ d o, x = .ref d ∧ ((∃ kvs, H1 d = some (.frz o (.dK kvs)) ∧ R (Itk d o kvs) H1) ∨ ∃ kvs, H1 d = some (.frz o (.dT kvs)) ∧ R (Itkt d o kvs) H1)
section
variable {X : Cx} {tg e : Expr} {td : TE} {apos cpos : Pos}
theorem pi_keys (he : PE X e td) : PI X tg e (iKeys td) := by
  intro pins s σ H R I h
  refine thn (he pins s σ H _ I h) fun u s1 ⟨x, H1, I1, rx, d, o, ex, q⟩ => ?_
  subst ex
  obtain rfl : u = Value.ref d := rx
  rcases q with ⟨kvs, hd, q⟩ | ⟨kvs, hd, q⟩
  · obtain ⟨hs, hgd, hx, es, ep, vs, hdt, hsz, kv, hm⟩ := I1.frzK hd
    refine iter_keys hs hgd hx hdt (pi_one (tk := s1.toks) I1 _ (turn_keys _ hdt) ⟨_, Heap.get?_push_size _ rfl, rfl, ?_⟩ q)
    rw [hsz] <;> rfl
  · obtain ⟨hs, hgd, hx, es, ep, hdt, hsz, ent⟩ := I1.frzT hd
    refine iter_keys hs hgd hx hdt (pi_one (tk := s1.toks) I1 _ (turn_keysT _ hdt) ⟨_, Heap.get?_push_size _ rfl, rfl, ?_⟩ q)
    rw [hsz] <;> rfl
end

/-! ### enumerate(list) -/
/-! ### zip(list, list) -/
end L2

section 
namespace Bits
open PySem PyProof.Rows








end Bits
end 

section 
namespace TL
open PySem PySem.Builtin PySem.Builtin.Str PySem.StrLaws


/-! ### the list functions -/




/-! ### the model's split and partition are these -/




/-! ### computing spl and par -/


/-! ### digits -/

/-! ### words: x.split() -/
end TL
end 

namespace L2
open PySem PySem.Spec PyProof.Rows




section
variable {X : Cx} {pins : List (Addr × Obj)} {σ : St} {H : Hp} {s : Shared} {Q : VK}
end

section
variable {X : Cx}





/-! ### of a text alone -/

/-! ### of a text and a text -/

end

section
variable {X : Cx} {o e : Expr} {to te : TE}

end
end L2

namespace L2
open PySem PySem.Spec PyProof.Rows

section
variable {X : Cx}
end

/-! ### slices of a text -/


end L2

namespace Att
open PySem PySem.W PySem.Calls PyProof.Rows

/-! ### the script -/



/-! ### the attachment: holds_open's last premise (the goal 'hc' behind k_head) from a wpAny of the law's body -/



/-! ### rules over ANY heap (no ledger) from facts about the written part K: the library's own take a ledger (News) for what they write -/
section
variable {prog : Program} {w : World} {A : Around} {E : Value → Shared → Prop} {s : Shared} {K : Frag}





/-! the whole heap as the ledger: makes every rule that writes through a ledger a rule over any heap -/

end
end Att

namespace L2
open PySem PySem.Spec PyProof.Rows

theorem vals_ints : ∀ {vs : List Value} {ns : List Int}, IntsAre vs ns → Vals (ns.map V.int) vs
  | _, _, .nil => .nil
  | _, _, .cons n t h => .cons ⟨t, rfl⟩ (vals_ints h)

/-- nothing is tracked but the script, known to the object (or it is an object of the module) -/
def Only (H : Hp) : Prop := ∀ b, H b = none ∨ ∃ o xs, H b = some (.frz o (.lst xs))

/-- THE HEAD: the law's promise, at the heap behind the top. F, the promise of the law's def, may use that base is part of the heap (so K.In base, base.Ns mainGlobals mg stand in Mod) -/
theorem law_call {P : Program} {w : World} {K : PySem.W.Frag} {mg mb : Str → Option Value} {CX : CXT} {k : Nat} {fa a : Addr} {fd : FuncData} {x : Str} {sp : Sp} {s₁ : Shared} {vs : List Value} {ns : List Int}
    (KX : K.In s₁.heap) (hns : s₁.heap.Ns mainGlobals mg) (hb : s₁.heap.Ns builtinsNs mb) (hbb : ∀ x : Str, x ≠ "__name__" → mb x = bootBuiltins x) (hlim : s₁.heap.NoLimit) (hg : s₁.gens = #[])
    (ha : s₁.heap.get? a = some { cls := .type "list", data := .seq vs.toArray }) (hi : IntsAre vs ns) (hl : ns.length ≤ sizeLine) (hr : Room k callerA)
    (F : ∀ base : Heap, K.In base → base.Ns mainGlobals mg → FnOk P w K mg base CX k fa fd [x] sp) (hbind : ∀ (s : Shared) (u : Value), BindsTo s fd ⟨[u], []⟩ [(x, u)])
    (hsp : ∀ H : Hp, Only H → SqL K H a (ns.map V.int) → sp [.ref a] H (fun v _ => v = .bl true) fun _ _ _ => False)
    (hCX : ∀ H e s', CX [] H s₁ (fun _ _ _ => False) e s' → False) :
    codeAny (model P w) callerA (.call (.ref fa) ⟨[.ref a], []⟩) (fun r s' => r = .ok (.ret (.bool true)) ∧ OldK s₁.heap s'.heap ∧ s'.os = s₁.os ∧ AllBare s'.gens) s₁ := by
  have rv := vals_ints hi
  have lenV := hi.length
  -- from an abstract heap in which nothing but the script may be tracked
  have core : ∀ H : Hp, Only H → SqL K H a (ns.map V.int) → HOk P w H s₁.heap → (∀ b, H b ≠ none → b = a) → (H a ≠ none → K.lookup a = none) →
      codeAny (model P w) callerA (.call (.ref fa) ⟨[.ref a], []⟩) (fun r s' => r = .ok (.ret (.bool true)) ∧ OldK s₁.heap s'.heap ∧ s'.os = s₁.os ∧ AllBare s'.gens) s₁ := by
    intro H hO hS hok hA hK
    have base_of : ∀ {b : Addr} {o : Obj}, s₁.heap.get? b = some o → H b = none → (hidT s₁.heap H).get? b = some o := fun e n => hidT_get e n
    have noA : ∀ {b : Addr} {o : Obj} {es : Array DictEntry} {ep : Nat}, s₁.heap.get? b = some o → o.data = .dict es ep → H b = none := fun {b o es ep} e d => by
      cases q : H b with
      | none => rfl
      | some u =>
        have e' : b = a := hA b (by rw [q]; simp)
        subst e'
        rw [ha] at e; cases e
        have d' : Data.seq vs.toArray _ = Data.dict es ep := d
        cases d'
    have nsK : ∀ {b : Addr} {m : Str → Option Value}, s₁.heap.Ns b m → (hidT s₁.heap H).Ns b m := fun {b m} ⟨o, es, ep, e, d, r⟩ => ⟨o, es, ep, base_of e (noA e d), d, r⟩
    have hKb : K.In (hidT s₁.heap H) := fun b o e => base_of (KX b o e) (by
      cases q : H b with
      | none => rfl
      | some u =>
        have e' : b = a := hA b (by rw [q]; simp)
        subst e'
        rw [hK (by rw [q]; simp)] at e; cases e)
    have hM : Mod K mg (hidT s₁.heap H) := ⟨hKb, nsK hns, ⟨mb, nsK hb, hbb⟩, let ⟨mc, h1, h2⟩ := hlim; ⟨mc, nsK h1, h2⟩⟩
    have e0 : Env0 P w K mg (hidT s₁.heap H) callerA [] s₁ H := ⟨rfl, hM, fun b o e => of_hidT e, Nat.le_of_eq (hidT_size _ _), trivial, fun b hb => absurd (show b ∈ ([] : List Addr) from hb) (by simp), hok, .of_eq hg⟩
    refine codeAny_mono ((F _ hKb (nsK hns)).run callerA [] s₁ H ⟨[.ref a], []⟩ [.ref a] [.ref a] _ _ hr e0 (hbind s₁ (.ref a)) (.cons rfl .nil) (hsp H hO hS)) fun r s' h => ?_
    cases r with
    | error e => exact (hCX H e s' h).elim
    | ok fl =>
      cases fl with
      | next => exact False.elim h
      | brk => exact False.elim h
      | cont => exact False.elim h
      | ret u =>
        obtain ⟨v, H', os, bare, un, hok', r', q⟩ := h
        have q' : v = .bl true := q
        subst q'
        obtain rfl : u = Value.bool true := r'
        refine ⟨rfl, OldK.of_keep fun b o e => ?_, os, bare⟩
        cases q : H b with
        | none => exact un.keep b o e q (by intro z; exact absurd (show b ∈ ([] : List Addr) from z) (by simp)) (by simp)
        | some u =>
          rcases hO b with z | ⟨ob, xs, z⟩
          · rw [q] at z; cases z
          · have z2 := un.frzs b ob _ z
            obtain ⟨e1, _⟩ := hok b _ z
            obtain ⟨e2, _⟩ := hok' b _ z2
            rw [e] at e1; cases e1
            exact e2
  cases hk : K.lookup a with
  | some o =>
    -- the script is one of the module's own objects
    have e := KX a o hk
    rw [ha] at e
    cases e
    refine core (fun _ => none) (fun _ => .inl rfl) (.inr ⟨_, vs.toArray, _, hk, rfl, rfl, rfl, by rw [List.size_toArray, lenV]; exact hl, by simpa using rv⟩) (fun b u z => by have z' : (none : Option HO) = some u := z; cases z') (fun b z => absurd rfl z) fun z => absurd rfl z
  | none =>
    refine core (fun b => if b = a then some (.frz { cls := .type "list", data := .seq vs.toArray } (.lst (ns.map V.int))) else none) (fun b => ?_) (.inl (.inr ⟨{ cls := .type "list", data := .seq vs.toArray }, if_pos rfl⟩)) (fun b u z => ?_) (fun b z => ?_) fun _ => hk
    · by_cases hb : b = a
      · exact .inr ⟨_, _, if_pos hb⟩
      · exact .inl (if_neg hb)
    · by_cases hb : b = a
      · have z' := (if_pos hb).symm.trans z
        cases z'
        subst hb
        exact ⟨ha, by rw [List.length_map]; exact hl, vs, _, rv, ha⟩
      · have z' := (if_neg hb).symm.trans z
        cases z'
    · by_cases hb : b = a
      · exact hb
      · exact absurd (if_neg hb) z
end L2

namespace L2
open PySem PySem.Spec PyProof.Rows


end L2

/- THE LAST THEOREM (shape; LID, My.* are yours):
   My.Adr: a structure of the addresses that your layer names (classes, functions); My.Txt K t: a structure (Prop) of the equations over K;
   My.txt_mk : {K} {implicit addresses ..} (e1 : nsIn K mainGlobals "law" = some (some (.ref f))) (e2 : K.lookup f = some ⟨oc, od, .func (fnOf "law" "law" params body scope dV kV doc pm an cdv ct), sl⟩) (e3 : codeIn K cdv "law" = true) .. : ∃ t, My.Txt K t

set_option maxRecDepth 100000 in
set_option maxHeartbeats 0 in
theorem PySem.Challenge.cw_LID_holds : PySem.Challenge.rw_LID.Holds := by
  w_on; o_law; k_head; (case hw => w_witness2)
  k_fill
  refine L2.walk_of (l := PySem.Challenge.rw_LID) (n := 63) (k := 40) (x := "script") (CX := fun w => ..) (sp := fun _ => My.sp_law) rfl (by decide) rfl ⟨rfl, by decide, by decide⟩ (fun w h Y => PySem.W.kIn_of Y) ?F ?S ?C
  case F =>
    intro w mg fa h KX G hmg
    have T : ∃ t, My.Txt (L2.KOf KX) t := by
      dsimp only [L2.KOf]                          -- K must stand as «<heap const> w.params» for k_is
      refine' My.txt_mk ?e1 ?e2 ?e3 ..
      (case e1 => PySem.W.k_is)                    -- in the order: a name -> its address -> its object -> its parts
      (case e2 => PySem.W.k_is)
      ..
    obtain ⟨t, T⟩ := T
    have e0 := hmg.symm.trans (PySem.W.mg_of KX G T.law)
    cases e0                                       -- fa is the law's own address
    exact ⟨_, fun s u => .of_eq rfl, fun base kb nb => My.law_fn T kb nb⟩     -- if «.of_eq rfl» comes too early: refine' ⟨_, ?b, fun base kb nb => My.law_fn T kb nb⟩; exact fun s u => .of_eq rfl
  case S => exact fun w H a ns hl hO hS => ..
  case C => exact ..
(the tactic k_is has no namespace: write k_is) -/

/-! SHORT WORDS over the layer: a def of the text, its body, what a loop and a test want. -/
namespace L2
open PySem PySem.Spec PyProof.Rows

/-! ### the text by places -/
/-- the j-th statement of a class's body -/
def inClass (s : Stmt) (j : Nat) : Stmt := match s with
  | .ClassDef _ _ _ body _ _ _ _ _ _ _ => body.getD j (.Pass ⟨0, 0, 0, 0⟩)
  | _ => .Pass ⟨0, 0, 0, 0⟩
def defArgs (s : Stmt) : Arguments := match s with
  | .FunctionDef _ a _ _ _ _ _ _ _ _ => a
  | _ => { posonlyargs := [], args := [], vararg := none, kwonlyargs := [], kw_defaults := [], kwarg := none, defaults := [] }
def defBody (s : Stmt) : List Stmt := match s with
  | .FunctionDef _ _ b _ _ _ _ _ _ _ => b
  | _ => []
def defScope (s : Stmt) : Scope := match s with
  | .FunctionDef _ _ _ _ _ _ sc _ _ _ => sc
  | _ => { kind := .function, names := [], isGenerator := false, isCoroutine := false }

/-! ### no exception leaves a def -/
abbrev CX0 : CXT := fun _ _ _ _ _ _ => False
abbrev E0 : XK := fun _ _ _ => False
theorem pass0 {X : Cx} : Passes CX0 X E0 := fun _ _ _ _ _ _ _ h => h.elim

/-! ### a def (or method) of the text as it stands behind the top -/
structure Fun (K : PySem.W.Frag) (x qual : Str) (st : Stmt) (f : Addr) (fd : FuncData) : Prop where
  ex : ∃ (oc : Value) (od : Option Addr) (kV doc pm : Value) (an : Option Addr) (cdv ct : Value) (osl : Array (Option Value)),
    fd = PySem.W.fnOf x qual (defArgs st) (defBody st) (defScope st) .none kV doc pm an cdv ct ∧ K.lookup f = some ⟨oc, od, .func fd, osl⟩ ∧ PySem.W.codeIn K cdv qual = true
  kp : PySem.W.keepIn K (.ref f) = true
section
variable {P : Program} {w : World} {K : PySem.W.Frag} {mg : Str → Option Value} {base : Heap}
/-- THE RULE for a def: its body as a term of rules, and the reading of that term -/
theorem Fun.ok {x qual : Str} {st : Stmt} {f : Addr} {fd : FuncData} {N ps : List Str} {k : Nat} {sp : Sp} (F : Fun K x qual st f fd) (S : FnScope N ps (defScope st)) (len : ∀ vs H Q E, sp vs H Q E → vs.length = ps.length)
    (hbody : ∀ (cdv : Value) (A : Around) (outer : List Env) (s : Shared) (H : Hp) (vs : List V) (Q : VK) (E : XK), Room k (A.deeper (envOfC qual (defScope st) s.heap.objs.size f cdv)) → sp vs H Q E →
      ∃ t, PSs (cxOf CX0 P w K mg base N qual (defScope st) f cdv A outer s H E).nox (defBody st) t ∧ t { nx := fun _ H' => Q .non H', rt := Q } (start N vs) H) : FnOk P w K mg base CX0 (k + 1) f fd ps sp := by
  obtain ⟨oc, od, kV, doc, pm, an, cdv, ct, osl, rfl, lk, hcd⟩ := F.ex
  refine fn_of lk hcd S len fun A outer s H vs Q E hr hsp => ?_
  obtain ⟨t, h, q⟩ := hbody cdv A outer s H vs Q E hr hsp
  exact ⟨t, h.nox, q⟩
/-- how its arguments bind (no defaults): h is «fun _ _ _ _ _ _ us hl => match us, hl with | [_, _], _ => rfl», one _ a parameter -/
theorem Fun.binds {x qual : Str} {st : Stmt} {f : Addr} {fd : FuncData} {ps : List Str} (F : Fun K x qual st f fd)
    (h : ∀ (kV doc pm : Value) (an : Option Addr) (cdv ct : Value) (us : List Value), us.length = ps.length → bindArgs (PySem.W.fnOf x qual (defArgs st) (defBody st) (defScope st) .none kV doc pm an cdv ct) ⟨us, []⟩ = pure (ps.zip us)) : Binds K fd ps [] := by
  obtain ⟨oc, od, kV, doc, pm, an, cdv, ct, osl, rfl, lk, hcd⟩ := F.ex
  exact .all (h kV doc pm an cdv ct)
theorem fun_mk {x qual : Str} {st : Stmt} {f : Addr} {oc : Value} {od an : Option Addr} {osl : Array (Option Value)} {kV doc pm cdv ct : Value} (l : K.lookup f = some ⟨oc, od, .func (PySem.W.fnOf x qual (defArgs st) (defBody st) (defScope st) .none kV doc pm an cdv ct), osl⟩)
    (c : PySem.W.codeIn K cdv qual = true) (k : PySem.W.keepIn K (.ref f) = true) : Fun K x qual st f (PySem.W.fnOf x qual (defArgs st) (defBody st) (defScope st) .none kV doc pm an cdv ct) := ⟨⟨oc, od, kV, doc, pm, an, cdv, ct, osl, rfl, l, c⟩, k⟩
end
theorem hu_of {A : Around} {k : Nat} (hr : Room k A) : A.units + 1 < cLine := Nat.lt_of_le_of_lt (Nat.add_le_add_left (by decide : 1 ≤ 64) _) hr.units

/-! ### expressions in short: the name that stands in the i-th slot -/
section
variable {X : Cx}
theorem pv (i : Nat) {x : Str} {pos : Pos} (hN : X.N[i]? = some x := by rfl) (hv : Vis X.env.scope x := by first | exact Or.inl rfl | exact Or.inr (Or.inl rfl) | exact Or.inr (Or.inr rfl)) (hd : (x == ("__debug__" : Str)) = false := by decide)
    (hcd : (x == ("__classdict__" : Str)) = false := by decide) : PE X (.Name x pos) (tVar i) := pe_var hN hv hd hcd
end

/-! ### tests -/
theorem iteF {A B : Prop} (h : B) : if false = true then A else B := by
  rw [if_neg Bool.false_ne_true]
  exact h
theorem iteT {A B : Prop} (h : A) : if true = true then A else B := by
  rw [if_pos rfl]
  exact h
theorem ite2 {c A B : Prop} [Decidable c] (h1 : c → A) (h2 : ¬ c → B) : if c then A else B := by
  by_cases h : c
  · rw [if_pos h]
    exact h1 h
  · rw [if_neg h]
    exact h2 h

/-! ### heaps -/
/-- all that was tracked is as it was -/
def Same (H H' : Hp) : Prop := ∀ b o, H b = some o → H' b = some o
theorem Same.refl (H : Hp) : Same H H := fun _ _ h => h
theorem Same.trans {H H1 H2 : Hp} (a : Same H H1) (b : Same H1 H2) : Same H H2 := fun c o h => b c o (a c o h)
theorem Same.free {H H' : Hp} (e : Same H H') {l : Addr} (h : H' l = Option.none) : H l = Option.none := by
  cases q : H l with
  | none => rfl
  | some o =>
    rw [e l o q] at h
    cases h
theorem Same.seq {K : PySem.W.Frag} {H H' : Hp} {a : Addr} {xs : List V} (e : Same H H') (h : SqL K H a xs) : SqL K H' a xs := by
  rcases h with (h | ⟨o, h⟩) | h
  · exact .inl (.inl (e _ _ h))
  · exact .inl (.inr ⟨o, e _ _ h⟩)
  · exact .inr h

/-! ### a dict's pairs: keys that differ -/
section
variable {κ : Type} [DecidableEq κ]
theorem dropK_pos {p : κ × V} {r : List (κ × V)} {k : κ} (e : p.1 = k) : dropK (p :: r) k = dropK r k := by
  unfold dropK
  rw [List.filter_cons, if_neg (by simp [e])]
theorem dropK_neg {p : κ × V} {r : List (κ × V)} {k : κ} (e : ¬ p.1 = k) : dropK (p :: r) k = p :: dropK r k := by
  unfold dropK
  rw [List.filter_cons, if_pos (by simp [e])]
end
/-! ### lists -/
/-- a new instance and its __init__ leave all that was tracked as it was -/
theorem Same.made {H H1 : Hp} {x dx C : Addr} (nx : H x = Option.none) (nd : H dx = Option.none) (k : ∀ b o, (upd (upd H dx (.own x)) x (.ins C dx [])) b = some o → b ≠ x → H1 b = some o) : Same H H1 := fun b o e =>
  k b o (by rw [upd_ne (ne_of_none e nx), upd_ne (ne_of_none e nd)]; exact e) (ne_of_none e nx)
end L2

section
set_option Elab.async false
set_option linter.all false
set_option maxRecDepth 100000
set_option maxHeartbeats 2000000
namespace L2
open PySem PySem.Spec PyProof.Rows
open PySem.W (WData Codec OpenSpec Well WellAll ReadsW ReadsAllW)
/-! ### an answer as data -/
mutual
/-- x stands for the datum d, lists and tuples all the way -/
inductive Dw (K : PySem.W.Frag) (H : Hp) : V → WData → Prop
  | non : Dw K H .non .none
  | bl (b : Bool) : Dw K H (.bl b) (.bool b)
  | int (i : Int) : Dw K H (.int i) (.int i)
  | str (x : Str) : Dw K H (.str x) (.str x)
  | byt (b : Array UInt8) : Dw K H (.byt b) (.bytes b.toList)
  | lst {a : Addr} {xs : List V} {ds : List WData} : SqL K H a xs → DwAll K H xs ds → Dw K H (.ref a) (.list ds)
  | tup {a : Addr} {xs : List V} {ds : List WData} : SqT K H a xs → DwAll K H xs ds → Dw K H (.ref a) (.tuple ds)
inductive DwAll (K : PySem.W.Frag) (H : Hp) : List V → List WData → Prop
  | nil : DwAll K H [] []
  | cons {v : V} {vs : List V} {d : WData} {ds : List WData} : Dw K H v d → DwAll K H vs ds → DwAll K H (v :: vs) (d :: ds)
end
theorem dw_ints {K : PySem.W.Frag} {H : Hp} : ∀ ns : List Int, DwAll K H (ns.map V.int) (ns.map WData.int)
  | [] => .nil
  | n :: r => .cons (.int n) (dw_ints r)
theorem ints_dw {K : PySem.W.Frag} {H : Hp} : ∀ (ns : List Int) (xs : List V), DwAll K H xs (ns.map WData.int) → xs = ns.map V.int
  | [], xs, h => by
    cases h
    rfl
  | n :: r, xs, h => by
    cases h with
    | cons h1 h2 =>
      cases h1
      rw [ints_dw r _ h2] <;> rfl
section
variable {P : Program} {w : World} {K : PySem.W.Frag} {H : Hp} {h : Heap} {R : PySem.W.WRecords} {cl : Str → Option Addr}
theorem sqL_at {a : Addr} {xs : List V} (hok : HOk P w H h) (KX : K.In h) (q : SqL K H a xs) : ∃ (its : List Value) (o : Obj) (n : Nat), Vals xs its ∧ h.get? a = some o ∧ o.cls = .type "list" ∧ o.data = .seq its.toArray n := by
  rcases q with q | ⟨o, its, n, e, hc, _, hd, _, hv⟩
  · obtain ⟨_, its, n, hv, e⟩ := (show ObjOk P w H h a (.lst xs) from q.ok hok)
    exact ⟨its, _, n, hv, e, rfl, rfl⟩
  · exact ⟨its.toList, o, n, hv, KX _ _ e, hc, by simp [hd]⟩
theorem sqT_at {a : Addr} {xs : List V} (hok : HOk P w H h) (KX : K.In h) (q : SqT K H a xs) : ∃ (its : List Value) (o : Obj) (n : Nat), Vals xs its ∧ h.get? a = some o ∧ o.cls = .type "tuple" ∧ o.data = .seq its.toArray n := by
  rcases q with q | ⟨o, its, n, e, hc, hd, _, hv⟩
  · obtain ⟨_, its, hv, o, e, hc, n, hd⟩ := (show ObjOk P w H h a (.tup xs) from q.ok hok)
    exact ⟨its, o, n, hv, e, hc, hd⟩
  · exact ⟨its.toList, o, n, hv, KX _ _ e, hc, by simp [hd]⟩
mutual
theorem Dw.reads (hok : HOk P w H h) (KX : K.In h) : ∀ (d : WData) (v : V) (u : Value), Dw K H v d → RelV v u → ∃ as, ReadsW R cl h u d as
  | .none, _, _, x, r => by
    cases x
    cases r
    exact ⟨_, ReadsW.none⟩
  | .bool b, _, _, x, r => by
    cases x
    cases r
    exact ⟨_, ReadsW.bool b⟩
  | .int i, _, _, x, r => by
    cases x
    obtain ⟨t, rfl⟩ := r
    exact ⟨_, ReadsW.int i t⟩
  | .str s, _, _, x, r => by
    cases x
    obtain ⟨t, rfl⟩ := r
    exact ⟨_, ReadsW.str s t⟩
  | .bytes b, _, _, x, r => by
    cases x
    obtain ⟨t, rfl⟩ := r
    exact ⟨_, ReadsW.bytes _ t⟩
  | .list ds, _, _, x, r => by
    cases x with
    | lst hs ha =>
      cases r
      obtain ⟨its, o, n, rv, ho, hc, hd⟩ := sqL_at hok KX hs
      obtain ⟨as, hr⟩ := Dw.readsAll hok KX ds _ its ha rv
      exact ⟨_, ReadsW.list ho hc hd hr⟩
  | .tuple ds, _, _, x, r => by
    cases x with
    | tup hs ha =>
      cases r
      obtain ⟨its, o, n, rv, ho, hc, hd⟩ := sqT_at hok KX hs
      obtain ⟨as, hr⟩ := Dw.readsAll hok KX ds _ its ha rv
      exact ⟨_, ReadsW.tuple ho hc hd hr⟩
  | .float _, _, _, x, _ => by cases x
  | .dict _, _, _, x, _ => by cases x
  | .bytearray _, _, _, x, _ => by cases x
  | .set _, _, _, x, _ => by cases x
  | .frozenset _, _, _, x, _ => by cases x
  | .obj _ _, _, _, x, _ => by cases x
theorem Dw.readsAll (hok : HOk P w H h) (KX : K.In h) : ∀ (ds : List WData) (vs : List V) (us : List Value), DwAll K H vs ds → Vals vs us → ∃ as, ReadsAllW R cl h us ds as
  | [], _, _, x, r => by
    cases x
    cases r
    exact ⟨_, ReadsAllW.nil⟩
  | d :: ds, _, _, x, r => by
    cases x with
    | cons h1 h2 =>
      cases r with
      | cons r1 r2 =>
        obtain ⟨as, q1⟩ := Dw.reads hok KX d _ _ h1 r1
        obtain ⟨bs, q2⟩ := Dw.readsAll hok KX ds _ _ h2 r2
        exact ⟨_, ReadsAllW.cons q1 q2⟩
end
end
/-! ### the arguments -/
mutual
/-- data that a codec tells -/
def plW : WData → Bool
  | .none => true
  | .bool _ => true
  | .int _ => true
  | .str _ => true
  | .bytes _ => true
  | .list xs => plWs xs
  | .tuple xs => plWs xs
  | _ => false
def plWs : List WData → Bool
  | [] => true
  | x :: r => plW x && plWs r
end
theorem plWs_map {α : Type} {f : α → WData} (h : ∀ a, plW (f a) = true) : ∀ l : List α, plWs (l.map f) = true
  | [] => rfl
  | x :: r => by
    show (plW (f x) && plWs (r.map f)) = true
    rw [h x, plWs_map h r] <;> rfl
theorem pl_enc : ∀ (c : Codec) (a : c.denote), plW (c.enc a) = true
  | .unit, _ => rfl
  | .bool, _ => rfl
  | .int _ _, _ => rfl
  | .nat _ _, _ => rfl
  | .u8, _ => rfl
  | .bytes _ _, _ => rfl
  | .text _ _ _ _, _ => rfl
  | .list _ _ c, a => plWs_map (fun x => pl_enc c x) a
  | .pair c d, a => by
    show (plW (c.enc a.1) && (plW (d.enc a.2) && true)) = true
    rw [pl_enc c a.1, pl_enc d a.2] <;> rfl
  | .triple c d e, a => by
    show (plW (c.enc a.1) && (plW (d.enc a.2.1) && (plW (e.enc a.2.2) && true))) = true
    rw [pl_enc c a.1, pl_enc d a.2.1, pl_enc e a.2.2] <;> rfl
  | .option c, none => rfl
  | .option c, some x => pl_enc c x
theorem pl_encAll : ∀ (cs : List Codec) (a : Codec.denoteAll cs), plWs (Codec.encAll cs a) = true
  | [], _ => rfl
  | c :: cs, a => by
    show (plW (c.enc a.1) && plWs (Codec.encAll cs a.2)) = true
    rw [pl_enc c a.1, pl_encAll cs a.2] <;> rfl
theorem weight_mem : ∀ {xs : List WData} {d : WData}, d ∈ xs → d.weight ≤ WData.weightAll xs
  | [], d, h => absurd h (by simp)
  | x :: r, d, h => by
    show d.weight ≤ x.weight + 1 + WData.weightAll r
    rcases List.mem_cons.mp h with e | m
    · rw [e]
      omega
    · have z := weight_mem m
      omega
def toV : Value → V
  | .none => .non
  | .bool b => .bl b
  | .int i _ => .int i
  | .str x _ => .str x
  | .bytes b _ => .byt b
  | .ref a => .ref a
  | _ => .non
/-- a value of the arguments, its objects among A -/
def OkU (A : List Addr) : Value → Prop
  | .none => True
  | .bool _ => True
  | .int _ _ => True
  | .str _ _ => True
  | .bytes _ _ => True
  | .ref a => a ∈ A
  | _ => False
theorem OkU.mono {A B : List Addr} (h : ∀ a ∈ A, a ∈ B) : ∀ {u : Value}, OkU A u → OkU B u := fun {u} x => by
  cases u with
  | ref a => exact h a x
  | none => trivial
  | bool b => trivial
  | int i t => trivial
  | str s t => trivial
  | bytes b t => trivial
  | _ => exact False.elim x
theorem relV_toV {A : List Addr} {u : Value} (x : OkU A u) : RelV (toV u) u := by
  cases u with
  | ref a => rfl
  | none => rfl
  | bool b => rfl
  | int i t => exact ⟨t, rfl⟩
  | str s t => exact ⟨t, rfl⟩
  | bytes b t => exact ⟨t, rfl⟩
  | _ => exact False.elim x
theorem vals_toV {A : List Addr} : ∀ {vs : List Value}, (∀ u ∈ vs, OkU A u) → Vals (vs.map toV) vs
  | [], _ => .nil
  | u :: r, h => .cons (relV_toV (h u (List.mem_cons_self ..))) (vals_toV fun x hx => h x (List.mem_cons_of_mem _ hx))
/-- an object of the arguments -/
def ArgOb (h : Heap) (A : List Addr) (a : Addr) : Prop := ∃ vs : List Value, vs.length ≤ sizeLine ∧ (∀ u ∈ vs, OkU A u) ∧
  (h.get? a = some { cls := .type "list", data := .seq vs.toArray } ∨ h.get? a = some { cls := .type "tuple", data := .seq vs.toArray })
theorem ArgOb.mono {h : Heap} {A B : List Addr} {a : Addr} (k : ∀ a ∈ A, a ∈ B) (x : ArgOb h A a) : ArgOb h B a := by
  obtain ⟨vs, h1, h2, h3⟩ := x
  exact ⟨vs, h1, fun u hu => (h2 u hu).mono k, h3⟩
theorem wellAll_len {P : Params} {h : Heap} : ∀ {vs : List Value} {ds : List WData}, WellAll P h vs ds → vs.length = ds.length
  | _, _, .nil => rfl
  | _, _, .cons _ b => by
    show _ + 1 = _ + 1
    rw [wellAll_len b]
theorem well_list {P : Params} {h : Heap} {v : Value} {ds : List WData} (x : Well P h v (.list ds)) : ∃ (a : Addr) (vs : List Value), v = .ref a ∧ h.get? a = some { cls := .type "list", data := .seq vs.toArray } ∧ WellAll P h vs ds := by
  cases x with
  | list ho hall => exact ⟨_, _, rfl, ho, hall⟩
theorem well_tuple {P : Params} {h : Heap} {v : Value} {ds : List WData} (x : Well P h v (.tuple ds)) : ∃ (a : Addr) (vs : List Value), v = .ref a ∧ h.get? a = some { cls := .type "tuple", data := .seq vs.toArray } ∧ WellAll P h vs ds := by
  cases x with
  | tuple ho hall => exact ⟨_, _, rfl, ho, hall⟩
theorem well_cons {P : Params} {h : Heap} {us : List Value} {d : WData} {ds : List WData} (x : WellAll P h us (d :: ds)) : ∃ (v : Value) (vs : List Value), us = v :: vs ∧ Well P h v d ∧ WellAll P h vs ds := by
  cases x with
  | cons a b => exact ⟨_, _, rfl, a, b⟩
theorem line_of {n : Nat} (h : n ≤ 1048576) : n ≤ sizeLine := Nat.le_trans h (by decide)
section
variable {P : Params} {h : Heap}
mutual
theorem area_one : ∀ (d : WData) (v : Value), Well P h v d → plW d = true → d.weight ≤ 1048576 → ∃ A : List Addr, OkU A v ∧ ∀ a ∈ A, ArgOb h A a
  | .none, _, x, _, _ => by
    cases x
    exact ⟨[], trivial, fun a m => absurd m (by simp)⟩
  | .bool b, _, x, _, _ => by
    cases x
    exact ⟨[], trivial, fun a m => absurd m (by simp)⟩
  | .int i, _, x, _, _ => by
    cases x
    exact ⟨[], trivial, fun a m => absurd m (by simp)⟩
  | .str s, _, x, _, _ => by
    cases x
    exact ⟨[], trivial, fun a m => absurd m (by simp)⟩
  | .bytes b, _, x, _, _ => by
    cases x
    exact ⟨[], trivial, fun a m => absurd m (by simp)⟩
  | .list ds, _, x, p, z => by
    obtain ⟨a, vs, rfl, ho, hall⟩ := well_list x
    have z2 : WData.weightAll ds ≤ 1048576 := z
    obtain ⟨A, h1, h2⟩ := area_all ds _ hall p fun d hd => Nat.le_trans (weight_mem hd) z2
    have k : ∀ b ∈ A, b ∈ a :: A := fun b hb => List.mem_cons_of_mem _ hb
    refine ⟨a :: A, List.mem_cons_self .., fun b hb => ?_⟩
    rcases List.mem_cons.mp hb with e | m
    · rw [e]
      exact ⟨vs, line_of (by rw [wellAll_len hall]; exact Nat.le_trans (PySem.W.length_le_weightAllW ds) z2), fun u hu => (h1 u hu).mono k, .inl ho⟩
    · exact (h2 b m).mono k
  | .tuple ds, _, x, p, z => by
    obtain ⟨a, vs, rfl, ho, hall⟩ := well_tuple x
    have z2 : WData.weightAll ds ≤ 1048576 := z
    obtain ⟨A, h1, h2⟩ := area_all ds _ hall p fun d hd => Nat.le_trans (weight_mem hd) z2
    have k : ∀ b ∈ A, b ∈ a :: A := fun b hb => List.mem_cons_of_mem _ hb
    refine ⟨a :: A, List.mem_cons_self .., fun b hb => ?_⟩
    rcases List.mem_cons.mp hb with e | m
    · rw [e]
      exact ⟨vs, line_of (by rw [wellAll_len hall]; exact Nat.le_trans (PySem.W.length_le_weightAllW ds) z2), fun u hu => (h1 u hu).mono k, .inr ho⟩
    · exact (h2 b m).mono k
  | .float _, _, _, p, _ => Bool.noConfusion (show false = true from p)
  | .dict _, _, _, p, _ => Bool.noConfusion (show false = true from p)
  | .bytearray _, _, _, p, _ => Bool.noConfusion (show false = true from p)
  | .set _, _, _, p, _ => Bool.noConfusion (show false = true from p)
  | .frozenset _, _, _, p, _ => Bool.noConfusion (show false = true from p)
  | .obj _ _, _, _, p, _ => Bool.noConfusion (show false = true from p)
theorem area_all : ∀ (ds : List WData) (vs : List Value), WellAll P h vs ds → plWs ds = true → (∀ d ∈ ds, d.weight ≤ 1048576) → ∃ A : List Addr, (∀ u ∈ vs, OkU A u) ∧ ∀ a ∈ A, ArgOb h A a
  | [], _, x, _, _ => by
    cases x
    exact ⟨[], fun u m => absurd m (by simp), fun a m => absurd m (by simp)⟩
  | d :: ds, _, x, p, z => by
    obtain ⟨v, vs, rfl, x1, x2⟩ := well_cons x
    have q : plW d = true ∧ plWs ds = true := Bool.and_eq_true_iff.mp p
    obtain ⟨A, a1, a2⟩ := area_one d v x1 q.1 (z d (List.mem_cons_self ..))
    obtain ⟨B, b1, b2⟩ := area_all ds vs x2 q.2 fun e he => z e (List.mem_cons_of_mem _ he)
    have kA : ∀ b ∈ A, b ∈ A ++ B := fun b hb => List.mem_append.mpr (.inl hb)
    have kB : ∀ b ∈ B, b ∈ A ++ B := fun b hb => List.mem_append.mpr (.inr hb)
    refine ⟨A ++ B, fun u hu => ?_, fun b hb => ?_⟩
    · rcases List.mem_cons.mp hu with e | m
      · rw [e]
        exact a1.mono kA
      · exact (b1 u m).mono kB
    · rcases List.mem_append.mp hb with m | m
      · exact (a2 b m).mono kA
      · exact (b2 b m).mono kB
end
end
/-- what is tracked of an argument's object -/
def hoOf (o : Obj) : Option HO := match o.data with
  | .seq vs _ => if (o.cls == Value.type "list") = true then some (.frz o (.lst (vs.toList.map toV))) else some (.frz o (.tup (vs.toList.map toV)))
  | _ => none
def argH (K : PySem.W.Frag) (h : Heap) (A : List Addr) : Hp := fun b => if b ∈ A then (if (K.lookup b).isNone = true then (h.get? b).bind hoOf else none) else none
/-- nothing is tracked but what is known to the object -/
def OnlyF (H : Hp) : Prop := ∀ b, H b = none ∨ ∃ o u, H b = some (.frz o u)
theorem hoOf_lst (vs : List Value) : hoOf { cls := .type "list", data := .seq vs.toArray } = some (.frz { cls := .type "list", data := .seq vs.toArray } (.lst (vs.map toV))) := by
  show (if (Value.type "list" == Value.type "list") = true then some (HO.frz { cls := .type "list", data := .seq vs.toArray } (.lst (vs.toArray.toList.map toV))) else some (HO.frz { cls := .type "list", data := .seq vs.toArray } (.tup (vs.toArray.toList.map toV)))) = _
  rw [if_pos (beq_self_eq_true _)]
theorem hoOf_tup (vs : List Value) : hoOf { cls := .type "tuple", data := .seq vs.toArray } = some (.frz { cls := .type "tuple", data := .seq vs.toArray } (.tup (vs.map toV))) := by
  show (if (Value.type "tuple" == Value.type "list") = true then some (HO.frz { cls := .type "tuple", data := .seq vs.toArray } (.lst (vs.toArray.toList.map toV))) else some (HO.frz { cls := .type "tuple", data := .seq vs.toArray } (.tup (vs.toArray.toList.map toV)))) = _
  rw [if_neg (by decide)]
section
variable {P : Program} {w : World} {K : PySem.W.Frag} {h : Heap} {A : List Addr}
theorem argH_at {b : Addr} {o : Obj} (hb : b ∈ A) (hk : K.lookup b = none) (e : h.get? b = some o) : argH K h A b = hoOf o := by
  unfold argH
  rw [if_pos hb, hk, if_pos (show (none : Option Obj).isNone = true from rfl), e] <;> rfl
theorem of_argH {b : Addr} {u : HO} (q : argH K h A b = some u) : b ∈ A ∧ K.lookup b = none := by
  unfold argH at q
  by_cases hb : b ∈ A
  · rw [if_pos hb] at q
    cases hk : K.lookup b with
    | none => exact ⟨hb, rfl⟩
    | some o =>
      rw [hk, if_neg (by simp)] at q
      cases q
  · rw [if_neg hb] at q
    cases q
/-- what stands tracked -/
theorem argH_is (ar : ∀ a ∈ A, ArgOb h A a) {b : Addr} {u : HO} (q : argH K h A b = some u) : K.lookup b = none ∧ ∃ vs : List Value, vs.length ≤ sizeLine ∧ (∀ u ∈ vs, OkU A u) ∧
    ((h.get? b = some { cls := .type "list", data := .seq vs.toArray } ∧ u = .frz { cls := .type "list", data := .seq vs.toArray } (.lst (vs.map toV))) ∨
     (h.get? b = some { cls := .type "tuple", data := .seq vs.toArray } ∧ u = .frz { cls := .type "tuple", data := .seq vs.toArray } (.tup (vs.map toV)))) := by
  obtain ⟨hb, hk⟩ := of_argH q
  obtain ⟨vs, h1, h2, h3⟩ := ar b hb
  refine ⟨hk, vs, h1, h2, ?_⟩
  rcases h3 with e | e
  · rw [argH_at hb hk e, hoOf_lst] at q
    exact .inl ⟨e, (Option.some.inj q).symm⟩
  · rw [argH_at hb hk e, hoOf_tup] at q
    exact .inr ⟨e, (Option.some.inj q).symm⟩
theorem argH_only (ar : ∀ a ∈ A, ArgOb h A a) : OnlyF (argH K h A) := fun b => by
  cases q : argH K h A b with
  | none => exact .inl rfl
  | some u =>
    obtain ⟨_, vs, _, _, ⟨_, e⟩ | ⟨_, e⟩⟩ := argH_is ar q
    · exact .inr ⟨_, _, by rw [e]⟩
    · exact .inr ⟨_, _, by rw [e]⟩
theorem argH_ok (ar : ∀ a ∈ A, ArgOb h A a) : HOk P w (argH K h A) h := fun b u q => by
  obtain ⟨_, vs, h1, h2, ⟨e, rfl⟩ | ⟨e, rfl⟩⟩ := argH_is ar q
  · exact ⟨e, by rw [List.length_map]; exact h1, vs, _, vals_toV h2, e⟩
  · exact ⟨e, by rw [List.length_map]; exact h1, vs, vals_toV h2, _, e, rfl, _, rfl⟩
theorem seq_inj {c c' : Value} {vs us : List Value} (e : (some { cls := c, data := .seq vs.toArray } : Option Obj) = some { cls := c', data := .seq us.toArray }) : c = c' ∧ vs = us := by
  have e1 := Option.some.inj e
  have e2 : c = c' := congrArg Obj.cls e1
  have e3 : Data.seq vs.toArray = Data.seq us.toArray := congrArg Obj.data e1
  injection e3 with e4
  refine ⟨e2, ?_⟩
  have e5 := congrArg Array.toList e4
  simpa using e5
/-- a list argument -/
theorem argL (KX : K.In h) (ar : ∀ a ∈ A, ArgOb h A a) {a : Addr} {vs : List Value} (ha : a ∈ A) (e : h.get? a = some { cls := .type "list", data := .seq vs.toArray }) : (∀ u ∈ vs, OkU A u) ∧ SqL K (argH K h A) a (vs.map toV) := by
  obtain ⟨us, h1, h2, h3⟩ := ar a ha
  have hu : us = vs := by
    rcases h3 with q | q
    · rw [e] at q
      exact (seq_inj q).2.symm
    · rw [e] at q
      exact absurd (Value.type.inj (seq_inj q).1) (by decide)
  subst hu
  refine ⟨h2, ?_⟩
  cases hk : K.lookup a with
  | none => exact .inl (.inr ⟨_, by rw [argH_at ha hk e, hoOf_lst]⟩)
  | some o =>
    have e2 := KX a o hk
    rw [e] at e2
    obtain rfl := Option.some.inj e2
    exact .inr ⟨_, us.toArray, _, hk, rfl, rfl, rfl, by rw [List.size_toArray]; exact h1, by simpa using vals_toV h2⟩
theorem argT (KX : K.In h) (ar : ∀ a ∈ A, ArgOb h A a) {a : Addr} {vs : List Value} (ha : a ∈ A) (e : h.get? a = some { cls := .type "tuple", data := .seq vs.toArray }) : (∀ u ∈ vs, OkU A u) ∧ SqT K (argH K h A) a (vs.map toV) := by
  obtain ⟨us, h1, h2, h3⟩ := ar a ha
  have hu : us = vs := by
    rcases h3 with q | q
    · rw [e] at q
      exact absurd (Value.type.inj (seq_inj q).1) (by decide)
    · rw [e] at q
      exact (seq_inj q).2.symm
  subst hu
  refine ⟨h2, ?_⟩
  cases hk : K.lookup a with
  | none => exact .inl (.inr ⟨_, by rw [argH_at ha hk e, hoOf_tup]⟩)
  | some o =>
    have e2 := KX a o hk
    rw [e] at e2
    obtain rfl := Option.some.inj e2
    exact .inr ⟨_, us.toArray, _, hk, rfl, rfl, by rw [List.size_toArray]; exact h1, by simpa using vals_toV h2⟩
mutual
theorem dw_one {Pm : Params} (KX : K.In h) (ar : ∀ a ∈ A, ArgOb h A a) : ∀ (d : WData) (v : Value), Well Pm h v d → plW d = true → OkU A v → Dw K (argH K h A) (toV v) d
  | .none, _, x, _, _ => by
    cases x
    exact .non
  | .bool b, _, x, _, _ => by
    cases x
    exact .bl b
  | .int i, _, x, _, _ => by
    cases x
    exact .int i
  | .str s, _, x, _, _ => by
    cases x
    exact .str s
  | .bytes b, _, x, _, _ => by
    cases x
    have z := Dw.byt (K := K) (H := argH K h A) b.toArray
    exact z
  | .list ds, _, x, p, hu => by
    obtain ⟨a, vs, rfl, ho, hall⟩ := well_list x
    obtain ⟨h2, hs⟩ := argL KX ar hu ho
    exact .lst hs (dw_all KX ar ds _ hall p h2)
  | .tuple ds, _, x, p, hu => by
    obtain ⟨a, vs, rfl, ho, hall⟩ := well_tuple x
    obtain ⟨h2, hs⟩ := argT KX ar hu ho
    exact .tup hs (dw_all KX ar ds _ hall p h2)
  | .float _, _, _, p, _ => Bool.noConfusion (show false = true from p)
  | .dict _, _, _, p, _ => Bool.noConfusion (show false = true from p)
  | .bytearray _, _, _, p, _ => Bool.noConfusion (show false = true from p)
  | .set _, _, _, p, _ => Bool.noConfusion (show false = true from p)
  | .frozenset _, _, _, p, _ => Bool.noConfusion (show false = true from p)
  | .obj _ _, _, _, p, _ => Bool.noConfusion (show false = true from p)
theorem dw_all {Pm : Params} (KX : K.In h) (ar : ∀ a ∈ A, ArgOb h A a) : ∀ (ds : List WData) (vs : List Value), WellAll Pm h vs ds → plWs ds = true → (∀ u ∈ vs, OkU A u) → DwAll K (argH K h A) (vs.map toV) ds
  | [], _, x, _, _ => by
    cases x
    exact .nil
  | d :: ds, _, x, p, hu => by
    obtain ⟨v, vs, rfl, x1, x2⟩ := well_cons x
    have q : plW d = true ∧ plWs ds = true := Bool.and_eq_true_iff.mp p
    exact .cons (dw_one KX ar d v x1 q.1 (hu _ (List.mem_cons_self ..))) (dw_all KX ar ds vs x2 q.2 fun u m => hu u (List.mem_cons_of_mem _ m))
end
end
/-! ### the call -/
theorem spec_call {P : Program} {w : World} {K : PySem.W.Frag} {mg mb : Str → Option Value} {CX : CXT} {k : Nat} {fa : Addr} {fd : FuncData} {ps : List Str} {sp : Sp} {s₁ : Shared} {vals : List Value} {ds : List WData} {R : PySem.W.WRecords} {cl : Str → Option Addr} {d0 : WData}
    (KX : K.In s₁.heap) (hns : s₁.heap.Ns mainGlobals mg) (hb : s₁.heap.Ns builtinsNs mb) (hbb : ∀ x : Str, x ≠ "__name__" → mb x = bootBuiltins x) (hlim : s₁.heap.NoLimit) (hg : s₁.gens = #[])
    (hwl : WellAll w.params s₁.heap vals ds) (hpl : plWs ds = true) (hwt : ∀ d ∈ ds, d.weight ≤ 1048576) (hr : Room k callerA)
    (F : ∀ base : Heap, K.In base → base.Ns mainGlobals mg → FnOk P w K mg base CX k fa fd ps sp) (hbind : ∀ (s : Shared) (us : List Value), us.length = ps.length → BindsTo s fd ⟨us, []⟩ (ps.zip us)) (hlen : ds.length = ps.length)
    (hsp : ∀ (H : Hp) (xs : List V), OnlyF H → DwAll K H xs ds → sp xs H (fun v H' => Dw K H' v d0) fun _ _ _ => False)
    (hCX : ∀ H e s', CX [] H s₁ (fun _ _ _ => False) e s' → False) :
    codeAny (model P w) callerA (.call (.ref fa) ⟨vals, []⟩) (fun r s' => ∃ u as, r = .ok (.ret u) ∧ ReadsW R cl s'.heap u d0 as ∧ OldK s₁.heap s'.heap ∧ s'.os = s₁.os ∧ AllBare s'.gens) s₁ := by
  obtain ⟨A, ho, ar⟩ := area_all ds vals hwl hpl hwt
  have hO : OnlyF (argH K s₁.heap A) := argH_only ar
  have hok : HOk P w (argH K s₁.heap A) s₁.heap := argH_ok ar
  have hS := dw_all KX ar ds vals hwl hpl ho
  have hV := vals_toV ho
  have hK : ∀ b u, argH K s₁.heap A b = some u → K.lookup b = none := fun b u q => (argH_is ar q).1
  have noA : ∀ {b : Addr} {o : Obj} {es : Array DictEntry} {ep : Nat}, s₁.heap.get? b = some o → o.data = .dict es ep → argH K s₁.heap A b = none := fun {b o es ep} e d => by
    cases q : argH K s₁.heap A b with
    | none => rfl
    | some u =>
      obtain ⟨_, vs, _, _, ⟨e2, _⟩ | ⟨e2, _⟩⟩ := argH_is ar q
      · rw [e2] at e
        cases e
        have d' : Data.seq vs.toArray _ = Data.dict es ep := d
        cases d'
      · rw [e2] at e
        cases e
        have d' : Data.seq vs.toArray _ = Data.dict es ep := d
        cases d'
  generalize argH K s₁.heap A = H at hO hok hS hK noA
  have base_of : ∀ {b : Addr} {o : Obj}, s₁.heap.get? b = some o → H b = none → (hidT s₁.heap H).get? b = some o := fun e n => hidT_get e n
  have nsK : ∀ {b : Addr} {m : Str → Option Value}, s₁.heap.Ns b m → (hidT s₁.heap H).Ns b m := fun {b m} ⟨o, es, ep, e, d, r⟩ => ⟨o, es, ep, base_of e (noA e d), d, r⟩
  have nK : ∀ b o, K.lookup b = some o → H b = none := fun b o e => by
    cases q : H b with
    | none => rfl
    | some u =>
      rw [hK b u q] at e
      cases e
  have hKb : K.In (hidT s₁.heap H) := fun b o e => base_of (KX b o e) (nK b o e)
  have hM : Mod K mg (hidT s₁.heap H) := ⟨hKb, nsK hns, ⟨mb, nsK hb, hbb⟩, let ⟨mc, h1, h2⟩ := hlim; ⟨mc, nsK h1, h2⟩⟩
  have e0 : Env0 P w K mg (hidT s₁.heap H) callerA [] s₁ H := ⟨rfl, hM, fun b o e => of_hidT e, Nat.le_of_eq (hidT_size _ _), trivial, fun b hb => absurd (show b ∈ ([] : List Addr) from hb) (by simp), hok, .of_eq hg⟩
  have hl : vals.length = ps.length := by rw [wellAll_len hwl]; exact hlen
  refine codeAny_mono ((F _ hKb (nsK hns)).run callerA [] s₁ H ⟨vals, []⟩ vals (vals.map toV) _ _ hr e0 (hbind s₁ vals hl) hV (hsp H _ hO hS)) fun r s' x => ?_
  cases r with
  | error e => exact (hCX H e s' x).elim
  | ok fl =>
    cases fl with
    | next => exact False.elim x
    | brk => exact False.elim x
    | cont => exact False.elim x
    | ret u =>
      obtain ⟨v, H', os, bare, un, hok', r', q⟩ := x
      have kept : ∀ b o, s₁.heap.get? b = some o → s'.heap.get? b = some o := fun b o e => by
        cases q2 : H b with
        | none => exact un.keep b o e q2 (by intro z; exact absurd (show b ∈ ([] : List Addr) from z) (by simp)) (by simp)
        | some u2 =>
          rcases hO b with z | ⟨ob, u3, z⟩
          · rw [q2] at z
            cases z
          · have z2 := un.frzs b ob _ z
            obtain ⟨e1, _⟩ := hok b _ z
            obtain ⟨e2, _⟩ := hok' b _ z2
            rw [e] at e1
            cases e1
            exact e2
      have KX' : K.In s'.heap := fun b o e => kept b o (KX b o e)
      obtain ⟨as, hrd⟩ := Dw.reads (R := R) (cl := cl) hok' KX' d0 v u q r'
      exact ⟨u, as, rfl, hrd, OldK.of_keep kept, os, bare⟩
/-! ### the row -/
theorem layable_weight {ds : List WData} (h : WData.layableAll ds = true) : ∀ d ∈ ds, d.weight ≤ 1048576 := fun d hd =>
  (PySem.W.layableW_iff.mp (List.all_eq_true.mp h d hd)).2.2
theorem encAll_len : ∀ (cs : List Codec) (a : Codec.denoteAll cs), (Codec.encAll cs a).length = cs.length
  | [], _ => rfl
  | c :: cs, a => by
    show (Codec.encAll cs a.2).length + 1 = cs.length + 1
    rw [encAll_len cs a.2]
/-- the goal that k_headS leaves (case hc), from the promise of the row's def: whatever the arguments that the codecs let and the row asks for, the def gives what stands for enc (f ..) -/
theorem walk_spec {r : OpenSpec} {k : Nat} {q : Program} {loose : List Str} {XP : (Str → Option Value) → Heap → Prop} {YP : World → Heap → Prop} {d : DefRec} {K : Params → PySem.W.Frag} {CX : World → CXT} {ps : List Str} {sp : World → Sp}
    (hwell : r.wellSaid = true) (hdf : d.params.defaults = []) (hlen : r.args.length = ps.length) (hr : Room k callerA)
    (hY : ∀ (w : World) (h : Heap), YP w h → (K w.params).In h)
    (F : ∀ (w : World) (mg : Str → Option Value) (fa : Addr) (h : Heap), YP w h → (K w.params).In h → h.Ns mainGlobals mg → mg d.name = some (.ref fa) →
      ∃ fd : FuncData, (∀ (s : Shared) (us : List Value), us.length = ps.length → BindsTo s fd ⟨us, []⟩ (ps.zip us)) ∧
        ∀ base : Heap, (K w.params).In base → base.Ns mainGlobals mg → FnOk r.prog w (K w.params) mg base (CX w) k fa fd ps (sp w))
    (hsp : ∀ (w : World) (H : Hp) (xs : List V) (a : Codec.denoteAll r.args), OnlyF H → Codec.withinAll r.args a = true → Codec.app r.args r.asked a = true → DwAll (K w.params) H xs (Codec.encAll r.args a) →
      sp w xs H (fun v H' => Dw (K w.params) H' v (r.ret.enc (Codec.app r.args r.f a))) fun _ _ _ => False)
    (hCX : ∀ (w : World) (H : Hp) (s : Shared) (e : Value) (s' : Shared), CX w [] H s (fun _ _ _ => False) e s' → False) :
    PySem.W.WalkOS q loose XP YP r d [] (fun f vs => PySem.call f vs) := by
  intro w s_0 s₁ mg mb G Y fa o pm cd doc dV kV ho hd hcd hD hmg hg args vals as hpre hlay hrd hwl hlo
  obtain ⟨a, e1, e2⟩ := PySem.W.os_pre_some hpre
  obtain ⟨e3, hwi⟩ := Codec.encAll_of_decAll r.args args a e1
  subst e3
  have KX := hY w _ Y
  obtain ⟨fd, hb, hF⟩ := F w mg fa _ Y KX G.T.g hmg
  refine PySem.W.enter_call (codeAny_mono (spec_call (R := []) (cl := classAt s_0.heap) (d0 := r.ret.enc (Codec.app r.args r.f a)) KX G.T.g G.T.b G.T.builtins G.T.nolimit hg hwl (pl_encAll _ _) (layable_weight hlay) hr hF hb (by rw [encAll_len]; exact hlen)
    (fun H xs hO hS => hsp w H xs a hO hwi e2 hS) fun H e s' => hCX w H s₁ e s') fun r' s' hq => ?_)
  obtain ⟨u, as', rfl, h1, h2, h3, h4⟩ := hq
  exact ⟨.inl ⟨u, _, as', rfl, fun _ => rfl, h1, (OpenSpec.post_iff hwell hwi _ _).mpr rfl, fun z => Bool.noConfusion (show false = true from z)⟩, h2, h3, h4⟩
/-- the same where the promise hangs on the written part alone -/
theorem walk_specK {r : OpenSpec} {k : Nat} {q : Program} {loose : List Str} {XP : (Str → Option Value) → Heap → Prop} {YP : World → Heap → Prop} {d : DefRec} {K : Params → PySem.W.Frag} {CX : CXT} {ps : List Str} {sp : PySem.W.Frag → Sp}
    (hwell : r.wellSaid = true) (hdf : d.params.defaults = []) (hlen : r.args.length = ps.length) (hr : Room k callerA)
    (hY : ∀ (w : World) (h : Heap), YP w h → (K w.params).In h)
    (F : ∀ (w : World) (mg : Str → Option Value) (fa : Addr) (h : Heap), YP w h → (K w.params).In h → h.Ns mainGlobals mg → mg d.name = some (.ref fa) →
      ∃ fd : FuncData, (∀ (s : Shared) (us : List Value), us.length = ps.length → BindsTo s fd ⟨us, []⟩ (ps.zip us)) ∧
        ∀ base : Heap, (K w.params).In base → base.Ns mainGlobals mg → FnOk r.prog w (K w.params) mg base CX k fa fd ps (sp (K w.params)))
    (hsp : ∀ (K : PySem.W.Frag) (H : Hp) (xs : List V) (a : Codec.denoteAll r.args), OnlyF H → Codec.withinAll r.args a = true → Codec.app r.args r.asked a = true → DwAll K H xs (Codec.encAll r.args a) →
      sp K xs H (fun v H' => Dw K H' v (r.ret.enc (Codec.app r.args r.f a))) fun _ _ _ => False)
    (hCX : ∀ (H : Hp) (s : Shared) (e : Value) (s' : Shared), CX [] H s (fun _ _ _ => False) e s' → False) :
    PySem.W.WalkOS q loose XP YP r d [] (fun f vs => PySem.call f vs) :=
  walk_spec (K := K) (CX := fun _ => CX) (sp := fun w => sp (K w.params)) hwell hdf hlen hr hY F (fun w H xs a h1 h2 h3 h4 => hsp (K w.params) H xs a h1 h2 h3 h4) fun _ H s e s' => hCX H s e s'
end L2
-- rests on (row put in by the clerk, for the bench that shows a file only what it spells): KE.SpHead KE.OsShapes
end

section
namespace Hp
open Sp05
/-! ### bits -/
theorem nat_xor_add : ∀ (n x y : Nat), x ≤ n → (x ^^^ y) + 2 * (x &&& y) = x + y := by
  intro n
  induction n with
  | zero =>
    intro x y h
    have : x = 0 := by omega
    subst this
    simp
  | succ n ih =>
    intro x y h
    by_cases h0 : x = 0
    · subst h0
      simp
    · have h1 := ih (x / 2) (y / 2) (by omega)
      have e1 : (x ^^^ y) / 2 = (x / 2) ^^^ (y / 2) := Nat.xor_div_two
      have e2 : (x &&& y) / 2 = (x / 2) &&& (y / 2) := Nat.and_div_two
      have m1 : ((x ^^^ y) % 2 = 1) ↔ ¬ ((x % 2 = 1) ↔ (y % 2 = 1)) := Nat.xor_mod_two_eq_one
      have m2 : ((x &&& y) % 2 = 1) ↔ x % 2 = 1 ∧ y % 2 = 1 := Nat.and_mod_two_eq_one
      rw [← e1, ← e2] at h1
      generalize (x ^^^ y) = a at *
      generalize (x &&& y) = b at *
      rcases Nat.mod_two_eq_zero_or_one x with hx | hx <;> rcases Nat.mod_two_eq_zero_or_one y with hy | hy <;> simp only [hx, hy] at m1 m2 <;>
        simp at m1 m2 <;> omega
theorem xor_and (x y : Nat) : (x ^^^ y) + 2 * (x &&& y) = x + y := nat_xor_add x x y (Nat.le_refl _)
theorem and_hi_lo (a b i : Nat) (h : b < 2 ^ i) : (2 ^ i * a) &&& b = 0 := by
  apply Nat.eq_of_testBit_eq
  intro j
  rw [Nat.testBit_and, Nat.testBit_two_pow_mul, Nat.zero_testBit]
  by_cases hj : i ≤ j
  · have : b.testBit j = false := Nat.testBit_lt_two_pow (Nat.lt_of_lt_of_le h (Nat.pow_le_pow_right (by omega) hj))
    rw [this, Bool.and_false]
  · simp [hj]
theorem low64 (x : Nat) : x &&& 18446744073709551615 = x % 2 ^ 64 := Nat.and_two_pow_sub_one_eq_mod x 64
theorem xor_lt {x y : Nat} (hx : x < 2 ^ 64) (hy : y < 2 ^ 64) : x ^^^ y < 2 ^ 64 := Nat.xor_lt_two_pow hx hy
theorem mul_lt {a b : Nat} (ha : a < 2 ^ 64) (hb : b < 2 ^ 64) : a * b / 2 ^ 64 < 2 ^ 64 := by
  rw [Nat.div_lt_iff_lt_mul (by decide)]
  calc a * b ≤ a * 2 ^ 64 := Nat.mul_le_mul_left _ (Nat.le_of_lt hb)
    _ < 2 ^ 64 * 2 ^ 64 := by
      have := Nat.mul_lt_mul_of_pos_right ha (show 0 < 2 ^ 64 by decide)
      exact this
theorem fold_lt {a b : Nat} (ha : a < 2 ^ 64) (hb : b < 2 ^ 64) : Sp05.fold a b < 2 ^ 64 := by
  unfold Sp05.fold
  exact xor_lt (Nat.mod_lt _ (by decide)) (mul_lt ha hb)
/-- h rotated: the two parts, apart in their bits -/
theorem turn_hi (h : Nat) : h * 2 ^ 23 % 2 ^ 64 = 2 ^ 23 * (h % 2 ^ 41) := by
  have e : (2 : Nat) ^ 64 = 2 ^ 23 * 2 ^ 41 := by decide
  rw [e, Nat.mul_comm h, Nat.mul_mod_mul_left]
theorem turn_lo {h : Nat} (hh : h < 2 ^ 64) : h / 2 ^ 41 < 2 ^ 23 := by
  rw [Nat.div_lt_iff_lt_mul (by decide)]
  have e : (2 : Nat) ^ 23 * 2 ^ 41 = 2 ^ 64 := by decide
  rw [e]
  exact hh
theorem turn_and {h : Nat} (hh : h < 2 ^ 64) : (h * 2 ^ 23 % 2 ^ 64) &&& (h / 2 ^ 41) = 0 := by
  rw [turn_hi]
  exact and_hi_lo _ _ _ (turn_lo hh)
theorem turned_lt {h : Nat} (hh : h < 2 ^ 64) : Sp05.turned h < 2 ^ 64 := by
  unfold Sp05.turned
  rw [turn_hi]
  have h1 := turn_lo hh
  have h2 : h % 2 ^ 41 < 2 ^ 41 := Nat.mod_lt _ (by decide)
  have e : (2 : Nat) ^ 64 = 2 ^ 23 * 2 ^ 41 := by decide
  rw [e]
  calc 2 ^ 23 * (h % 2 ^ 41) + h / 2 ^ 41 < 2 ^ 23 * (h % 2 ^ 41) + 2 ^ 23 := by omega
    _ = 2 ^ 23 * (h % 2 ^ 41 + 1) := by rw [Nat.mul_add, Nat.mul_one]
    _ ≤ 2 ^ 23 * 2 ^ 41 := Nat.mul_le_mul_left _ h2
/-! ### bytes -/
def bI (b : UInt8) : Int := (b.toNat : Int)
theorem number_cons (c : UInt8) (b : List UInt8) : number (c :: b) = c.toNat + 256 * number b := rfl
theorem number_lt : ∀ (b : List UInt8), number b < 256 ^ b.length
  | [] => by decide
  | c :: b => by
    have h := number_lt b
    have hc := c.toNat_lt
    rw [number_cons, List.length_cons, Nat.pow_succ]
    omega
theorem number8 (b : List UInt8) : number (b.take 8) < 2 ^ 64 := by
  have h := number_lt (b.take 8)
  have hl : (b.take 8).length ≤ 8 := by rw [List.length_take]; omega
  have : 256 ^ (b.take 8).length ≤ 256 ^ 8 := Nat.pow_le_pow_right (by omega) hl
  have e : (256 : Nat) ^ 8 = 2 ^ 64 := by decide
  omega
theorem octets_bI : ∀ (k : List UInt8), Sp05Neutral.octets (k.map bI) = k
  | [] => rfl
  | c :: k => by
    show UInt8.ofNat ((c.toNat : Int)).toNat :: Sp05Neutral.octets (k.map bI) = c :: k
    rw [octets_bI k, Int.toNat_natCast, UInt8.ofNat_toNat]
theorem bI_octets : ∀ {xs : List Int}, xs.all (fun z => Sp05Neutral.natural z 8) = true → (Sp05Neutral.octets xs).map bI = xs
  | [], _ => rfl
  | x :: xs, h => by
    rw [List.all_cons, Bool.and_eq_true] at h
    have ih := bI_octets h.2
    have hx := h.1
    unfold Sp05Neutral.natural at hx
    rw [Bool.and_eq_true] at hx
    have h1 : 0 ≤ x := of_decide_eq_true hx.1
    have h2 : x < 2 ^ 8 := of_decide_eq_true hx.2
    show ((UInt8.ofNat x.toNat).toNat : Int) :: (Sp05Neutral.octets xs).map bI = x :: xs
    rw [ih, UInt8.toNat_ofNat']
    congr 1
    omega
/-- what the reversed loop has by then -/
theorem number_drop {s : List UInt8} {i : Nat} {b : UInt8} (h : s[i]? = some b) : number (s.drop i) = b.toNat + 256 * number (s.drop (i + 1)) := by
  obtain ⟨h1, h2⟩ := List.getElem?_eq_some_iff.mp h
  rw [List.drop_eq_getElem_cons h1, number_cons, h2]
/-! ### the mixer's steps -/
theorem steps_nil (f h : Nat) : steps (f + 1) h [] = h := rfl
theorem steps_fuel : ∀ (f g h : Nat) (b : List UInt8), b.length < f → b.length < g → steps f h b = steps g h b
  | 0, _, _, _, h1, _ => by omega
  | _, 0, _, _, _, h2 => by omega
  | f + 1, g + 1, h, b, h1, h2 => by
    unfold steps
    by_cases e : b = []
    · rw [if_pos e, if_pos e]
    · rw [if_neg e, if_neg e]
      by_cases l : b.length < 16
      · rw [if_pos l, if_pos l]
      · rw [if_neg l, if_neg l]
        exact steps_fuel f g _ _ (by rw [List.length_drop]; omega) (by rw [List.length_drop]; omega)
/-- from h over the rest b -/
def goes (h : Nat) (b : List UInt8) : Nat := steps (b.length + 1) h b
theorem goes_nil (h : Nat) : goes h [] = h := rfl
theorem goes_16 (h : Nat) (b : List UInt8) (l : 16 ≤ b.length) : goes h b = goes (Sp05.fold (number (b.take 8) ^^^ K2) (number ((b.drop 8).take 8) ^^^ h)) (b.drop 16) := by
  have ne : b ≠ [] := by intro e; rw [e] at l; simp at l
  unfold goes
  show (if b = [] then h else if b.length < 16 then _ else steps b.length _ (b.drop 16)) = _
  rw [if_neg ne, if_neg (by omega)]
  exact steps_fuel _ _ _ _ (by rw [List.length_drop]; omega) (by omega)
theorem goes_last (h : Nat) (b : List UInt8) (ne : b ≠ []) (l : b.length < 16) : goes h b = Sp05.fold (number (b.take 8) ^^^ K3) (number ((b.drop 8).take 8) ^^^ h) := by
  unfold goes
  show (if b = [] then h else if b.length < 16 then _ else _) = _
  rw [if_neg ne, if_pos l, List.take_of_length_le (l := b.drop 8) (by rw [List.length_drop]; omega)]
theorem mix_eq (seed : Nat) (b : List UInt8) : mix seed b = Sp05.fold (turned (goes (seed ^^^ (b.length * K1 % 2 ^ 64)) b) ^^^ K1) K4 := rfl
theorem K1_lt : K1 < 2 ^ 64 := by decide
theorem K2_lt : K2 < 2 ^ 64 := by decide
theorem K3_lt : K3 < 2 ^ 64 := by decide
theorem K4_lt : K4 < 2 ^ 64 := by decide
theorem goes_lt : ∀ (n h : Nat) (b : List UInt8), b.length ≤ n → h < 2 ^ 64 → goes h b < 2 ^ 64
  | 0, h, b, hn, hh => by
    have : b = [] := List.length_eq_zero_iff.mp (by omega)
    rw [this, goes_nil]
    exact hh
  | n + 1, h, b, hn, hh => by
    by_cases e : b = []
    · rw [e, goes_nil]
      exact hh
    · have p8 := number8 b
      have q8 := number8 (b.drop 8)
      by_cases l : b.length < 16
      · rw [goes_last h b e l]
        exact fold_lt (xor_lt p8 K3_lt) (xor_lt q8 hh)
      · rw [goes_16 h b (by omega)]
        exact goes_lt n _ _ (by rw [List.length_drop]; omega) (fold_lt (xor_lt p8 K2_lt) (xor_lt q8 hh))
theorem mix_lt {seed : Nat} (b : List UInt8) (hs : seed < 2 ^ 64) : mix seed b < 2 ^ 64 := by
  rw [mix_eq]
  exact fold_lt (xor_lt (turned_lt (goes_lt _ _ _ (Nat.le_refl _) (xor_lt hs (Nat.mod_lt _ (by decide))))) K1_lt) K4_lt
theorem home_lt (s : Abs) (k : Key) (hs : s.seed < 2 ^ 64) (h1 : 1 ≤ s.slots) : s.home k < s.slots := by
  unfold Abs.home
  have := mix_lt k hs
  rw [Nat.div_lt_iff_lt_mul (by decide), Nat.mul_comm s.slots]
  exact Nat.mul_lt_mul_of_pos_right this (by omega)
end Hp
end
section
namespace Hp
open Sp05
/-! ### one call read off the list -/
inductive One : List Int → List (List Int) → List Int → Prop
  | init (s n : Int) (t : List Int) : One (1 :: s :: n :: t) [[1, s, n]] t
  | key (p n : Int) (k t : List Int) (hp : p = 2 ∨ p = 4 ∨ p = 5 ∨ p = 6) : One (p :: n :: (k.length : Int) :: (k ++ t)) [[p, n], k] t
  | put (n v : Int) (k t : List Int) : One (3 :: n :: v :: (k.length : Int) :: (k ++ t)) [[3, n, v], k] t
  | num (p x : Int) (t : List Int) (hp : p = 7 ∨ p = 8) : One (p :: x :: t) [[p, x]] t
theorem row_some {r x s : List Int} (h : PyFlat.row r = some (x, s)) : r = (x.length : Int) :: (x ++ s) := by
  cases r with
  | nil => cases h
  | cons n r =>
    unfold PyFlat.row at h
    dsimp only at h
    by_cases c : 0 ≤ n ∧ n.toNat ≤ r.length
    · rw [if_pos c] at h
      have e := Option.some.inj h
      have e1 : r.take n.toNat = x := congrArg Prod.fst e
      have e2 : r.drop n.toNat = s := congrArg Prod.snd e
      subst e1 e2
      rw [List.take_append_drop, List.length_take]
      congr 1
      omega
    · rw [if_neg c] at h
      cases h
theorem rows1_some {r : List Int} {xs : List (List Int)} {s : List Int} (h : PyFlat.rows 1 r = some (xs, s)) : ∃ x, xs = [x] ∧ r = (x.length : Int) :: (x ++ s) := by
  unfold PyFlat.rows at h
  cases e : PyFlat.row r with
  | none => rw [e] at h; cases h
  | some q =>
    obtain ⟨x, t⟩ := q
    rw [e] at h
    have h' : some ([x], t) = some (xs, s) := h
    cases h'
    exact ⟨x, rfl, row_some e⟩
theorem take1 {r : List Int} (h : ¬ r.length < 1) : ∃ a t, r = a :: t ∧ r.take 1 = [a] ∧ r.drop 1 = t := by
  cases r with
  | nil => simp at h
  | cons a t => exact ⟨a, t, rfl, by simp, rfl⟩
theorem take2 {r : List Int} (h : ¬ r.length < 2) : ∃ a b t, r = a :: b :: t ∧ r.take 2 = [a, b] ∧ r.drop 2 = t := by
  match r, h with
  | [], h => simp at h
  | [a], h => simp at h
  | a :: b :: t, _ => exact ⟨a, b, t, rfl, by simp, rfl⟩
theorem shape_cases (p : Int) : (p = 1 ∧ PySp05.shape p = some (2, 0)) ∨ ((p = 2 ∨ p = 4 ∨ p = 5 ∨ p = 6) ∧ PySp05.shape p = some (1, 1)) ∨ (p = 3 ∧ PySp05.shape p = some (2, 1)) ∨
    ((p = 7 ∨ p = 8) ∧ PySp05.shape p = some (1, 0)) ∨ PySp05.shape p = none := by
  unfold PySp05.shape
  by_cases h1 : p = 1
  · subst h1; exact .inl ⟨rfl, rfl⟩
  by_cases h2 : p = 2
  · subst h2; exact .inr (.inl ⟨by simp, rfl⟩)
  by_cases h3 : p = 3
  · subst h3; exact .inr (.inr (.inl ⟨rfl, rfl⟩))
  by_cases h4 : p = 4
  · subst h4; exact .inr (.inl ⟨by simp, rfl⟩)
  by_cases h5 : p = 5
  · subst h5; exact .inr (.inl ⟨by simp, rfl⟩)
  by_cases h6 : p = 6
  · subst h6; exact .inr (.inl ⟨by simp, rfl⟩)
  by_cases h7 : p = 7
  · subst h7; exact .inr (.inr (.inr (.inl ⟨by simp, rfl⟩)))
  by_cases h8 : p = 8
  · subst h8; exact .inr (.inr (.inr (.inl ⟨by simp, rfl⟩)))
  · rw [if_neg h1, if_neg h2, if_neg h3, if_neg h4, if_neg h5, if_neg h6, if_neg h7, if_neg h8]
    exact .inr (.inr (.inr (.inr rfl)))
theorem call_one {l : List Int} {c : List (List Int)} {t : List Int} (h : PyFlat.call PySp05.shape l = some (c, t)) : One l c t := by
  cases l with
  | nil => cases h
  | cons p r =>
    unfold PyFlat.call at h
    dsimp only at h
    rcases shape_cases p with ⟨rfl, e⟩ | ⟨hp, e⟩ | ⟨rfl, e⟩ | ⟨hp, e⟩ | e <;> rw [e] at h <;> dsimp only at h
    · by_cases c2 : r.length < 2
      · rw [if_pos c2] at h; cases h
      · rw [if_neg c2] at h
        obtain ⟨a, b, u, rfl, e1, e2⟩ := take2 c2
        rw [e1, e2] at h
        have h' : some ([[1, a, b]], u) = some (c, t) := h
        cases h'
        exact .init _ _ _
    · by_cases c2 : r.length < 1
      · rw [if_pos c2] at h; cases h
      · rw [if_neg c2] at h
        obtain ⟨a, u, rfl, e1, e2⟩ := take1 c2
        rw [e1, e2] at h
        cases e3 : PyFlat.rows 1 u with
        | none => rw [e3] at h; cases h
        | some q =>
          obtain ⟨xs, s⟩ := q
          rw [e3] at h
          obtain ⟨x, rfl, rfl⟩ := rows1_some e3
          have h' : some ([[p, a], x], s) = some (c, t) := h
          cases h'
          exact .key _ _ _ _ hp
    · by_cases c2 : r.length < 2
      · rw [if_pos c2] at h; cases h
      · rw [if_neg c2] at h
        obtain ⟨a, b, u, rfl, e1, e2⟩ := take2 c2
        rw [e1, e2] at h
        cases e3 : PyFlat.rows 1 u with
        | none => rw [e3] at h; cases h
        | some q =>
          obtain ⟨xs, s⟩ := q
          rw [e3] at h
          obtain ⟨x, rfl, rfl⟩ := rows1_some e3
          have h' : some ([[3, a, b], x], s) = some (c, t) := h
          cases h'
          exact .put _ _ _ _
    · by_cases c2 : r.length < 1
      · rw [if_pos c2] at h; cases h
      · rw [if_neg c2] at h
        obtain ⟨a, u, rfl, e1, e2⟩ := take1 c2
        rw [e1, e2] at h
        have h' : some ([[p, a]], u) = some (c, t) := h
        cases h'
        exact .num _ _ _ hp
    · cases h
theorem One.whole {l : List Int} {c : List (List Int)} {t : List Int} (h : One l c t) : PySp05.whole c = c := by
  cases h with
  | init => rfl
  | key p n k t hp => rcases hp with rfl | rfl | rfl | rfl <;> rfl
  | put => rfl
  | num p x t hp => rcases hp with rfl | rfl <;> rfl
/-- the calls of a list, one by one -/
inductive Reads : List Int → List (List (List Int)) → Prop
  | nil : Reads [] []
  | cons {l t : List Int} {c : List (List Int)} {cs : List (List (List Int))} (h : One l c t) (r : Reads t cs) : Reads l (c :: cs)
theorem reads_of : ∀ (f : Nat) (l : List Int) (cs : List (List (List Int))), PyFlat.calls PySp05.shape f l = some cs → Reads l cs
  | f, [], cs, h => by
    have h' : some [] = some cs := by cases f <;> exact h
    cases h'
    exact .nil
  | 0, p :: r, cs, h => by cases h
  | f + 1, p :: r, cs, h => by
    unfold PyFlat.calls at h
    cases e : PyFlat.call PySp05.shape (p :: r) with
    | none => rw [e] at h; cases h
    | some q =>
      obtain ⟨c, t⟩ := q
      rw [e] at h
      dsimp only at h
      cases e2 : PyFlat.calls PySp05.shape f t with
      | none => rw [e2] at h; cases h
      | some cs' =>
        rw [e2] at h
        have h' : some (c :: cs') = some cs := h
        cases h'
        exact .cons (call_one e) (reads_of f t cs' e2)
theorem Reads.whole : ∀ {l : List Int} {cs : List (List (List Int))}, Reads l cs → cs.map PySp05.whole = cs
  | _, _, .nil => rfl
  | _, _, .cons h r => by rw [List.map_cons, h.whole, r.whole]
/-- what the request gives: the calls, each asked; the answers -/
theorem asked_reads {l : List Int} (h : PySp05.answers_asked l = true) : ∃ cs, Reads l cs ∧ (∀ c ∈ cs, Sp05Neutral.asked1 c = true) ∧ cs.length ≤ 400 ∧ (cs.head?.map Sp05Neutral.begins).getD false = true ∧
    PySp05.answers l = PyFlat.told (PyFlat.played Sp05Neutral.step none cs) := by
  unfold PySp05.answers_asked at h
  cases e : PySp05.calls l with
  | none => rw [e] at h; cases h
  | some cs =>
    rw [e] at h
    have e0 := e
    unfold PySp05.calls at e
    cases e2 : PyFlat.calls PySp05.shape l.length l with
    | none => rw [e2] at e; cases e
    | some cs' =>
      rw [e2] at e
      have e' : some (cs'.map PySp05.whole) = some cs := e
      have r := reads_of _ _ _ e2
      rw [r.whole] at e'
      cases e'
      have h' : (PyFlat.atMost 400 cs && Sp05Neutral.asked cs) = true := h
      rw [Bool.and_eq_true] at h'
      unfold Sp05Neutral.asked at h'
      rw [Bool.and_eq_true, Bool.and_eq_true] at h'
      refine ⟨cs, r, fun c hc => ?_, of_decide_eq_true h'.2.1.2, h'.2.2, ?_⟩
      · exact List.all_eq_true.mp h'.2.1.1 c hc
      · unfold PySp05.answers
        rw [e0]
        rfl
/-! ### told, played -/
theorem told_cons (a : List Int) (l : List (List Int)) : PyFlat.told (a :: l) = ((a.length : Int) :: a) ++ PyFlat.told l := rfl
theorem played_cons {S : Type} (f : S → List (List Int) → S × List Int) (s : S) (c : List (List Int)) (r : List (List (List Int))) : PyFlat.played f s (c :: r) = (f s c).2 :: PyFlat.played f (f s c).1 r := rfl
/-! ### what a call asks -/
theorem long_of {k : List Int} {n : Int} (h : Sp05Neutral.long k n 0 255 = true) : (0 ≤ n ∧ n ≤ 255 ∧ (k.length : Int) = n) ∨ (¬ (0 ≤ n ∧ n ≤ 255) ∧ k = []) := by
  have h1 : (k.length : Int) = if 0 ≤ n ∧ n ≤ 255 then n else 0 := of_decide_eq_true h
  by_cases c : 0 ≤ n ∧ n ≤ 255
  · rw [if_pos c] at h1
    exact .inl ⟨c.1, c.2, h1⟩
  · rw [if_neg c] at h1
    refine .inr ⟨c, List.length_eq_zero_iff.mp (by omega)⟩
theorem fair_iff {n : Int} : Sp05.fair n = true ↔ 0 ≤ n ∧ n ≤ 255 := by
  unfold Sp05.fair
  rw [Bool.and_eq_true, decide_eq_true_iff, decide_eq_true_iff]
theorem many_iff {n : Int} : Sp05.many n = true ↔ 1 ≤ n ∧ n ≤ 128 := by
  unfold Sp05.many
  rw [Bool.and_eq_true, decide_eq_true_iff, decide_eq_true_iff]
theorem natural_iff {z : Int} {b : Nat} : Sp05Neutral.natural z b = true ↔ 0 ≤ z ∧ z < 2 ^ b := by
  unfold Sp05Neutral.natural
  rw [Bool.and_eq_true, decide_eq_true_iff, decide_eq_true_iff]
end Hp
end
section
namespace Hp
open Sp05
/-! ### the order of bytes -/
theorem lessBytes_irrefl : ∀ (a : Key), lessBytes a a = false
  | [] => rfl
  | x :: a => by
    show (decide (x < x) || (x == x && lessBytes a a)) = false
    rw [lessBytes_irrefl a, decide_eq_false (UInt8.lt_irrefl x)]
    simp
theorem lessBytes_cons (x y : UInt8) (a b : Key) : lessBytes (x :: a) (y :: b) = true ↔ x < y ∨ (x = y ∧ lessBytes a b = true) := by
  show (decide (x < y) || (x == y && lessBytes a b)) = true ↔ _
  rw [Bool.or_eq_true, Bool.and_eq_true, decide_eq_true_iff, beq_iff_eq]
theorem lessBytes_trans : ∀ {a b c : Key}, lessBytes a b = true → lessBytes b c = true → lessBytes a c = true
  | [], [], _, h, _ => by cases h
  | [], y :: b, [], _, h => by cases h
  | [], y :: b, z :: c, _, _ => rfl
  | x :: a, [], _, h, _ => by cases h
  | x :: a, y :: b, [], _, h => by cases h
  | x :: a, y :: b, z :: c, h1, h2 => by
    rw [lessBytes_cons] at h1 h2 ⊢
    rcases h1 with h1 | ⟨rfl, h1⟩
    · rcases h2 with h2 | ⟨rfl, h2⟩
      · exact .inl (UInt8.lt_trans h1 h2)
      · exact .inl h1
    · rcases h2 with h2 | ⟨rfl, h2⟩
      · exact .inl h2
      · exact .inr ⟨rfl, lessBytes_trans h1 h2⟩
theorem lessBytes_total : ∀ (a b : Key), a = b ∨ lessBytes a b = true ∨ lessBytes b a = true
  | [], [] => .inl rfl
  | [], _ :: _ => .inr (.inl rfl)
  | _ :: _, [] => .inr (.inr rfl)
  | x :: a, y :: b => by
    rw [lessBytes_cons, lessBytes_cons]
    rcases UInt8.lt_or_eq_of_le (a := x) (b := y) |> fun _ => (show x < y ∨ x = y ∨ y < x from by
      rcases Nat.lt_trichotomy x.toNat y.toNat with h | h | h
      · exact .inl h
      · exact .inr (.inl (UInt8.toNat_inj.mp h))
      · exact .inr (.inr h)) with h | h | h
    · exact .inr (.inl (.inl h))
    · subst h
      rcases lessBytes_total a b with e | e | e
      · exact .inl (by rw [e])
      · exact .inr (.inl (.inr ⟨rfl, e⟩))
      · exact .inr (.inr (.inr ⟨rfl, e⟩))
    · exact .inr (.inr (.inl h))
/-! ### the order in which keys take places -/
theorem less_iff (s : Abs) (a b : Key) : s.less a b = true ↔ s.home a < s.home b ∨ (s.home a = s.home b ∧ (mix s.seed a < mix s.seed b ∨ (mix s.seed a = mix s.seed b ∧ lessBytes a b = true))) := by
  unfold Abs.less
  simp only [Bool.or_eq_true, Bool.and_eq_true, decide_eq_true_iff, beq_iff_eq]
theorem less_irrefl (s : Abs) (a : Key) : ¬ s.less a a = true := by
  rw [less_iff]
  intro h
  rcases h with h | ⟨_, h | ⟨_, h⟩⟩
  · omega
  · omega
  · rw [lessBytes_irrefl] at h
    cases h
theorem less_trans (s : Abs) {a b c : Key} (h1 : s.less a b = true) (h2 : s.less b c = true) : s.less a c = true := by
  rw [less_iff] at h1 h2 ⊢
  rcases h1 with h1 | ⟨e1, h1 | ⟨f1, h1⟩⟩ <;> rcases h2 with h2 | ⟨e2, h2 | ⟨f2, h2⟩⟩
  · exact .inl (by omega)
  · exact .inl (by omega)
  · exact .inl (by omega)
  · exact .inl (by omega)
  · exact .inr ⟨by omega, .inl (by omega)⟩
  · exact .inr ⟨by omega, .inl (by omega)⟩
  · exact .inl (by omega)
  · exact .inr ⟨by omega, .inl (by omega)⟩
  · exact .inr ⟨by omega, .inr ⟨by omega, lessBytes_trans h1 h2⟩⟩
theorem less_total (s : Abs) (a b : Key) : a = b ∨ s.less a b = true ∨ s.less b a = true := by
  rw [less_iff, less_iff]
  rcases Nat.lt_trichotomy (s.home a) (s.home b) with h | h | h
  · exact .inr (.inl (.inl h))
  · rcases Nat.lt_trichotomy (mix s.seed a) (mix s.seed b) with g | g | g
    · exact .inr (.inl (.inr ⟨h, .inl g⟩))
    · rcases lessBytes_total a b with e | e | e
      · exact .inl e
      · exact .inr (.inl (.inr ⟨h, .inr ⟨g, e⟩⟩))
      · exact .inr (.inr (.inr ⟨h.symm, .inr ⟨g.symm, e⟩⟩))
    · exact .inr (.inr (.inr ⟨h.symm, .inl g⟩))
  · exact .inr (.inr (.inl h))
/-! ### sorted -/
theorem insert_perm (s : Abs) (x : Key × Nat) : ∀ (l : List (Key × Nat)), (s.insert x l).Perm (x :: l)
  | [] => .refl _
  | y :: r => by
    show (if s.less x.1 y.1 = true then x :: y :: r else y :: s.insert x r).Perm (x :: y :: r)
    by_cases h : s.less x.1 y.1 = true
    · rw [if_pos h]
    · rw [if_neg h]
      exact ((insert_perm s x r).cons y).trans (.swap x y r)
theorem sortedOf_perm (s : Abs) : ∀ (l : List (Key × Nat)), (l.foldr (fun x l => s.insert x l) []).Perm l
  | [] => .refl _
  | x :: l => by
    rw [List.foldr_cons]
    exact (insert_perm s x _).trans ((sortedOf_perm s l).cons x)
theorem sorted_perm (s : Abs) : s.sorted.Perm s.keys := sortedOf_perm s s.keys
/-- rows that stand in the order -/
def Ordered (s : Abs) (l : List (Key × Nat)) : Prop := l.Pairwise fun x y => s.less x.1 y.1 = true
theorem insert_ordered (s : Abs) (x : Key × Nat) : ∀ (l : List (Key × Nat)), Ordered s l → (∀ y ∈ l, y.1 ≠ x.1) → Ordered s (s.insert x l)
  | [], _, _ => List.pairwise_singleton _ _
  | y :: r, h, hn => by
    show Ordered s (if s.less x.1 y.1 = true then x :: y :: r else y :: s.insert x r)
    unfold Ordered at h ⊢
    rw [List.pairwise_cons] at h
    by_cases c : s.less x.1 y.1 = true
    · rw [if_pos c, List.pairwise_cons, List.pairwise_cons]
      refine ⟨fun z hz => ?_, h⟩
      rcases List.mem_cons.mp hz with rfl | hz
      · exact c
      · exact less_trans s c (h.1 z hz)
    · rw [if_neg c, List.pairwise_cons]
      refine ⟨fun z hz => ?_, insert_ordered s x r h.2 fun z hz => hn z (List.mem_cons_of_mem _ hz)⟩
      have hz' := (insert_perm s x r).mem_iff.mp hz
      rcases List.mem_cons.mp hz' with rfl | hz'
      · rcases less_total s z.1 y.1 with e | e | e
        · exact absurd e.symm (hn y (List.mem_cons_self ..))
        · exact absurd e c
        · exact e
      · exact h.1 z hz'
theorem sortedOf_ordered (s : Abs) : ∀ (l : List (Key × Nat)), (l.map (·.1)).Nodup → Ordered s (l.foldr (fun x l => s.insert x l) [])
  | [], _ => List.Pairwise.nil
  | x :: l, h => by
    rw [List.map_cons, List.nodup_cons] at h
    rw [List.foldr_cons]
    refine insert_ordered s x _ (sortedOf_ordered s l h.2) fun y hy e => h.1 ?_
    rw [← e]
    exact List.mem_map_of_mem ((sortedOf_perm s l).mem_iff.mp hy)
theorem sorted_ordered (s : Abs) (h : (s.keys.map (·.1)).Nodup) : Ordered s s.sorted := sortedOf_ordered s s.keys h
/-- two rows of the same keys in the order are one -/
theorem ordered_unique (s : Abs) : ∀ {l m : List (Key × Nat)}, Ordered s l → Ordered s m → l.Perm m → l = m
  | [], m, _, _, p => (List.nil_perm.mp p).symm
  | x :: l, [], _, _, p => absurd (List.perm_nil.mp p) (by simp)
  | x :: l, y :: m, hl, hm, p => by
    unfold Ordered at hl hm
    rw [List.pairwise_cons] at hl hm
    have e : x = y := by
      have h1 : x ∈ y :: m := p.mem_iff.mp (List.mem_cons_self ..)
      have h2 : y ∈ x :: l := p.mem_iff.mpr (List.mem_cons_self ..)
      rcases List.mem_cons.mp h1 with h1 | h1
      · exact h1
      · rcases List.mem_cons.mp h2 with h2 | h2
        · exact h2.symm
        · exact absurd (less_trans s (hl.1 y h2) (hm.1 x h1)) (less_irrefl s _)
    subst e
    rw [ordered_unique s hl.2 hm.2 ((List.perm_cons x).mp p)]
theorem sorted_eq (s : Abs) (h : (s.keys.map (·.1)).Nodup) {l : List (Key × Nat)} (ho : Ordered s l) (hp : l.Perm s.keys) : s.sorted = l :=
  ordered_unique s (sorted_ordered s h) ho ((sorted_perm s).trans hp.symm)
/-! ### the first free place -/
def takenAt (l : List (Nat × Key × Nat)) (p : Nat) : Bool := l.any fun x => x.1 == p
theorem free_eq (s : Abs) (l : List (Nat × Key × Nat)) (k : Key) (j : Nat) (hj : j < s.slots) (hf : takenAt l ((s.home k + j) % s.slots) = false) (ht : ∀ i, i < j → takenAt l ((s.home k + i) % s.slots) = true) :
    s.free l k = (s.home k + j) % s.slots := by
  unfold Abs.free
  rw [List.find?_map]
  have e : ((fun p => !l.any fun x => x.1 == p) ∘ fun i => (s.home k + i) % s.slots) = fun i => !takenAt l ((s.home k + i) % s.slots) := rfl
  rw [e]
  have f : (List.range s.slots).find? (fun i => !takenAt l ((s.home k + i) % s.slots)) = some j := by
    rw [List.find?_range_eq_some]
    refine ⟨by rw [hf]; rfl, List.mem_range.mpr hj, fun i hi => ?_⟩
    rw [ht i hi]
    rfl
  rw [f, Option.map_some, Option.getD_some]
theorem len_le_of_sub : ∀ {r m : List Nat}, r.Nodup → (∀ x ∈ r, x ∈ m) → r.length ≤ m.length
  | [], _, _, _ => Nat.zero_le _
  | x :: r, m, hn, hs => by
    rw [List.nodup_cons] at hn
    have hx : x ∈ m := hs x (List.mem_cons_self ..)
    have h1 := len_le_of_sub (r := r) (m := m.erase x) hn.2 fun y hy => by
      have ne : y ≠ x := fun e => hn.1 (e ▸ hy)
      exact (List.mem_erase_of_ne ne).mpr (hs y (List.mem_cons_of_mem _ hy))
    rw [List.length_erase_of_mem hx] at h1
    have h2 : 0 < m.length := List.length_pos_of_mem hx
    rw [List.length_cons]
    omega
/-- a place is free while fewer keys lie than there are places -/
theorem taken_all (n : Nat) (l : List (Nat × Key × Nat)) (h : ∀ p, p < n → takenAt l p = true) : n ≤ l.length := by
  have h1 : (List.range n).length ≤ (l.map (·.1)).length := by
    refine len_le_of_sub List.nodup_range fun p hp => ?_
    have := h p (List.mem_range.mp hp)
    unfold takenAt at this
    rw [List.any_eq_true] at this
    obtain ⟨x, hx, e⟩ := this
    have e' : x.1 = p := eq_of_beq e
    rw [← e']
    exact List.mem_map_of_mem hx
  rw [List.length_range, List.length_map] at h1
  exact h1
end Hp
end
section
namespace Hp
open Sp05
/-! ### what the specification keeps -/
theorem layFold_snd (s : Abs) : ∀ (l : List (Key × Nat)) (acc : List (Nat × Key × Nat)), (l.foldl (fun l x => l ++ [(s.free l x.1, x)]) acc).map (·.2) = acc.map (·.2) ++ l
  | [], acc => by rw [List.foldl_nil, List.append_nil]
  | x :: l, acc => by
    rw [List.foldl_cons, layFold_snd s l, List.map_append, List.append_assoc]
    rfl
theorem layout_snd (s : Abs) : s.layout.map (·.2) = s.sorted := layFold_snd s s.sorted []
theorem at_mem {s : Abs} {p : Nat} {x : Key × Nat} (h : s.at_ p = some x) : x ∈ s.keys := by
  unfold Abs.at_ at h
  obtain ⟨y, hy, e⟩ := Option.map_eq_some_iff.mp h
  have m : y ∈ s.layout := List.mem_of_find?_eq_some hy
  have m2 : y.2 ∈ s.layout.map (·.2) := List.mem_map_of_mem m
  rw [layout_snd, e] at m2
  exact (sorted_perm s).mem_iff.mp m2
def ansOf (r : Option Abs × Ans) : Option Abs × List Int := (r.1, r.2.code :: (r.2.value : Int) :: r.2.key.map fun (b : UInt8) => (b.toNat : Int))
theorem step_eq {s : Option Abs} {c : List (List Int)} {x : Call} (h : Sp05Neutral.callOf c = some x) : Sp05Neutral.step s c = ansOf (spec s x) := by
  unfold Sp05Neutral.step
  rw [h]
  rfl
/-- the key of an asked call -/
theorem key_short {k : List Int} {n : Int} (h : Sp05Neutral.long k n 0 255 = true) : (Sp05Neutral.octets k).length ≤ 255 := by
  have e : (Sp05Neutral.octets k).length = k.length := List.length_map _
  rcases long_of h with ⟨_, _, _⟩ | ⟨_, rfl⟩
  · omega
  · rw [e]
    exact Nat.zero_le _
theorem map_keys (k : Key) (v : Nat) (l : List (Key × Nat)) : (l.map fun x => if x.1 == k then (k, v) else x).map (·.1) = l.map (·.1) := by
  rw [List.map_map]
  refine List.map_congr_left fun x _ => ?_
  show (if x.1 == k then (k, v) else x).1 = x.1
  by_cases e : x.1 = k
  · rw [if_pos (beq_iff_eq.mpr e), e]
  · rw [if_neg (fun q => e (beq_iff_eq.mp q))]
theorem value_none {t : Abs} {k : Key} (h : t.value k = none) : k ∉ t.keys.map (·.1) := by
  intro m
  obtain ⟨x, hx, e⟩ := List.mem_map.mp m
  unfold Abs.value at h
  rw [Option.map_eq_none_iff, List.find?_eq_none] at h
  exact h x hx (beq_iff_eq.mpr e)
theorem good_put_old {t : Abs} (g : Good t) (k : Key) (v : Nat) (hk : k.length ≤ 255) : Good { t with keys := t.keys.map fun x => if x.1 == k then (k, v) else x } where
  seed := g.seed
  slots := g.slots
  few := by
    show (t.keys.map _).length ≤ t.slots
    rw [List.length_map]
    exact g.few
  once := by
    show ((t.keys.map fun x => if x.1 == k then (k, v) else x).map (·.1)).Nodup
    rw [map_keys]
    exact g.once
  short := fun x hx => by
    have hx : x ∈ t.keys.map fun x => if x.1 == k then (k, v) else x := hx
    obtain ⟨y, hy, e⟩ := List.mem_map.mp hx
    by_cases c : y.1 = k
    · rw [if_pos (beq_iff_eq.mpr c)] at e
      rw [← e]
      exact hk
    · rw [if_neg (fun q => c (beq_iff_eq.mp q))] at e
      rw [← e]
      exact g.short y hy
theorem good_put_new {t : Abs} (g : Good t) (k : Key) (v : Nat) (hk : k.length ≤ 255) (hn : t.value k = none) (hl : t.keys.length < t.slots) : Good { t with keys := t.keys ++ [(k, v)] } where
  seed := g.seed
  slots := g.slots
  few := by
    show (t.keys ++ [(k, v)]).length ≤ t.slots
    rw [List.length_append]
    exact hl
  once := by
    show ((t.keys ++ [(k, v)]).map (·.1)).Nodup
    rw [List.map_append, List.nodup_append]
    refine ⟨g.once, by simp, fun a ha b hb e => ?_⟩
    have hb : b = k := by simpa using hb
    rw [e, hb] at ha
    exact value_none hn ha
  short := fun x hx => by
    have hx : x ∈ t.keys ++ [(k, v)] := hx
    rcases List.mem_append.mp hx with hx | hx
    · exact g.short x hx
    · have : x = (k, v) := by simpa using hx
      rw [this]
      exact hk
theorem good_take {t : Abs} (g : Good t) (k : Key) : Good (t.without k) where
  seed := g.seed
  slots := g.slots
  few := Nat.le_trans (List.length_filter_le _ _) g.few
  once := g.once.sublist ((List.filter_sublist).map _)
  short := fun x hx => g.short x (List.mem_filter.mp hx).1
theorem good_move {t : Abs} (g : Good t) {n : Int} (h : many n = true) (hl : (t.keys.length : Int) ≤ n) : Good { t with slots := n.toNat } where
  seed := g.seed
  slots := by
    have := many_iff.mp h
    show 1 ≤ n.toNat ∧ n.toNat ≤ 128
    omega
  few := by
    show t.keys.length ≤ n.toNat
    omega
  once := g.once
  short := g.short
theorem good_init {seed : Nat} {n : Int} (hs : seed < 2 ^ 64) (h : many n = true) : Good ⟨seed, n.toNat, []⟩ where
  seed := hs
  slots := by
    have := many_iff.mp h
    show 1 ≤ n.toNat ∧ n.toNat ≤ 128
    omega
  few := Nat.zero_le _
  once := List.nodup_nil
  short := fun x hx => by cases hx
/-! ### the calls one by one -/
theorem spec_init (s : Option Abs) (seed : Nat) (n : Int) : spec s (.init seed n) = if many n = true then (some ⟨seed, n.toNat, []⟩, ok 0) else (s, ok (-1)) := rfl
theorem spec_mix (t : Abs) (n : Int) (k : Key) : spec (some t) (.mix n k) = (some t, if fair n = true then ⟨0, mix t.seed k, []⟩ else ok (-1)) := rfl
theorem spec_put (t : Abs) (n : Int) (k : Key) (v : Nat) : spec (some t) (.put n k v) = if fair n = false then (some t, ok (-1)) else match t.value k with
    | some o => (some { t with keys := t.keys.map fun x => if x.1 == k then (k, v) else x }, ⟨0, o, []⟩)
    | none => if t.keys.length = t.slots then (some t, ok (-1)) else (some { t with keys := t.keys ++ [(k, v)] }, ok 1) := rfl
theorem spec_get (t : Abs) (n : Int) (k : Key) : spec (some t) (.get n k) = (some t, if fair n = false then ok (-1) else match t.value k with
    | some v => ⟨1, v, []⟩
    | none => ok 0) := rfl
theorem spec_take (t : Abs) (n : Int) (k : Key) : spec (some t) (.take n k) = if fair n = false then (some t, ok (-1)) else (match t.value k with
    | some v => (some (t.without k), ⟨1, v, []⟩)
    | none => (some t, ok 0)) := rfl
theorem spec_place (t : Abs) (n : Int) (k : Key) : spec (some t) (.place n k) = (some t, if fair n = false then ok (-1) else match t.place k with
    | some p => ok (p : Int)
    | none => ok (-1)) := rfl
theorem spec_walk (t : Abs) (p : Int) : spec (some t) (.walk p) = (some t, if p < 0 then ok (-1) else match t.at_ p.toNat with
    | some x => ⟨(x.1.length : Int), x.2, x.1⟩
    | none => ok (-1)) := rfl
theorem spec_move (t : Abs) (n : Int) : spec (some t) (.move n) = if many n = true ∧ (t.keys.length : Int) ≤ n then (some { t with slots := n.toNat }, ok 0) else (some t, ok (-1)) := rfl
theorem fair_false {n : Int} : fair n = false ↔ ¬ (0 ≤ n ∧ n ≤ 255) := by
  rw [← fair_iff]
  cases fair n <;> simp
/-- what a call comes to: the table stays good, the answer short -/
structure Well (r : Option Abs × Ans) : Prop where
  good : ∃ t, r.1 = some t ∧ Good t
  len : (ansOf r).2.length ≤ 257
theorem well2 {t : Abs} (g : Good t) (x : Int) (v : Nat) : Well (some t, ⟨x, v, []⟩) := ⟨⟨t, rfl, g⟩, by show 2 ≤ 257; decide⟩
theorem well_mix {t : Abs} (g : Good t) (n : Int) (k : Key) : Well (spec (some t) (.mix n k)) := by
  rw [spec_mix]
  by_cases h : fair n = true
  · rw [if_pos h]; exact well2 g _ _
  · rw [if_neg h]; exact well2 g _ _
theorem well_put {t : Abs} (g : Good t) (n : Int) (k : Key) (v : Nat) (hk : k.length ≤ 255) : Well (spec (some t) (.put n k v)) := by
  rw [spec_put]
  by_cases h : fair n = false
  · rw [if_pos h]; exact well2 g _ _
  · rw [if_neg h]
    cases e : t.value k with
    | some o => exact well2 (good_put_old g k v hk) _ _
    | none =>
      dsimp only
      by_cases h2 : t.keys.length = t.slots
      · rw [if_pos h2]; exact well2 g _ _
      · rw [if_neg h2]
        have := g.few
        exact well2 (good_put_new g k v hk e (by omega)) _ _
theorem well_get {t : Abs} (g : Good t) (n : Int) (k : Key) : Well (spec (some t) (.get n k)) := by
  rw [spec_get]
  by_cases h : fair n = false
  · rw [if_pos h]; exact well2 g _ _
  · rw [if_neg h]
    cases t.value k with
    | some o => exact well2 g _ _
    | none => exact well2 g _ _
theorem well_take {t : Abs} (g : Good t) (n : Int) (k : Key) : Well (spec (some t) (.take n k)) := by
  rw [spec_take]
  by_cases h : fair n = false
  · rw [if_pos h]; exact well2 g _ _
  · rw [if_neg h]
    cases t.value k with
    | some o => exact well2 (good_take g k) _ _
    | none => exact well2 g _ _
theorem well_place {t : Abs} (g : Good t) (n : Int) (k : Key) : Well (spec (some t) (.place n k)) := by
  rw [spec_place]
  by_cases h : fair n = false
  · rw [if_pos h]; exact well2 g _ _
  · rw [if_neg h]
    cases t.place k with
    | some o => exact well2 g _ _
    | none => exact well2 g _ _
theorem well_walk {t : Abs} (g : Good t) (p : Int) : Well (spec (some t) (.walk p)) := by
  rw [spec_walk]
  by_cases h : p < 0
  · rw [if_pos h]; exact well2 g _ _
  · rw [if_neg h]
    cases e : t.at_ p.toNat with
    | some x =>
      have hs : x.1.length ≤ 255 := g.short x (at_mem e)
      refine ⟨⟨t, rfl, g⟩, ?_⟩
      show ((x.1.length : Int) :: (x.2 : Int) :: x.1.map fun (b : UInt8) => (b.toNat : Int)).length ≤ 257
      rw [List.length_cons, List.length_cons, List.length_map]
      omega
    | none => exact well2 g _ _
theorem well_move {t : Abs} (g : Good t) (n : Int) : Well (spec (some t) (.move n)) := by
  rw [spec_move]
  by_cases h : many n = true ∧ (t.keys.length : Int) ≤ n
  · rw [if_pos h]; exact well2 (good_move g h.1 h.2) _ _
  · rw [if_neg h]; exact well2 g _ _
theorem well_init {s : Option Abs} (g : ∀ t, s = some t → Good t) (seed : Nat) (n : Int) (hs : seed < 2 ^ 64) (h : s = none → many n = true) : Well (spec s (.init seed n)) := by
  rw [spec_init]
  by_cases c : many n = true
  · rw [if_pos c]
    exact well2 (good_init hs c) _ _
  · rw [if_neg c]
    cases s with
    | none => exact absurd (h rfl) c
    | some t => exact well2 (g t rfl) _ _
/-- a table that may not have begun -/
def Fit (s : Option Abs) : Prop := ∀ t, s = some t → Good t
theorem nat64 {z : Int} (h : 0 ≤ z ∧ z < 2 ^ 64) : z.toNat < 2 ^ 64 := by omega
/-- a step of what is asked -/
theorem well_step {s : Option Abs} {l t : List Int} {c : List (List Int)} (o : One l c t) (f : Fit s) (ha : Sp05Neutral.asked1 c = true) (hb : s = none → Sp05Neutral.begins c = true) :
    (∃ t', (Sp05Neutral.step s c).1 = some t' ∧ Good t') ∧ (Sp05Neutral.step s c).2.length ≤ 257 := by
  have fin : ∀ {x : Call}, Sp05Neutral.callOf c = some x → Well (spec s x) → (∃ t', (Sp05Neutral.step s c).1 = some t' ∧ Good t') ∧ (Sp05Neutral.step s c).2.length ≤ 257 := fun h w => by
    rw [step_eq h]
    exact ⟨w.good, w.len⟩
  cases o with
  | init a n t =>
    have h1 : Sp05Neutral.natural a 64 = true ∧ Sp05Neutral.whole32 n = true := by
      rw [← Bool.and_eq_true]; exact ha
    refine fin (x := .init a.toNat n) rfl (well_init f _ _ (nat64 (natural_iff.mp h1.1)) fun e => ?_)
    have h2 : (decide (1 ≤ n) && decide (n ≤ 128)) = true := hb e
    exact h2
  | key p n k t hp =>
    cases s with
    | none =>
      have := hb rfl
      rcases hp with rfl | rfl | rfl | rfl <;> cases this
    | some t0 =>
      have g := f t0 rfl
      rcases hp with rfl | rfl | rfl | rfl
      · exact fin (x := .mix n (Sp05Neutral.octets k)) rfl (well_mix g _ _)
      · exact fin (x := .get n (Sp05Neutral.octets k)) rfl (well_get g _ _)
      · exact fin (x := .take n (Sp05Neutral.octets k)) rfl (well_take g _ _)
      · exact fin (x := .place n (Sp05Neutral.octets k)) rfl (well_place g _ _)
  | put n v k t =>
    cases s with
    | none => cases hb rfl
    | some t0 =>
      have g := f t0 rfl
      have h1 : (k.all (fun (z : Int) => Sp05Neutral.natural z 8) && Sp05Neutral.long k n 0 255) = true ∧ (Sp05Neutral.whole32 n && Sp05Neutral.natural v 64) = true := by
        rw [← Bool.and_eq_true]; exact ha
      rw [Bool.and_eq_true] at h1
      exact fin (x := .put n (Sp05Neutral.octets k) v.toNat) rfl (well_put g _ _ _ (key_short h1.1.2))
  | num p x t hp =>
    cases s with
    | none =>
      have := hb rfl
      rcases hp with rfl | rfl <;> cases this
    | some t0 =>
      have g := f t0 rfl
      rcases hp with rfl | rfl
      · exact fin (x := .walk x) rfl (well_walk g _)
      · exact fin (x := .move x) rfl (well_move g _)
end Hp
end
section
namespace Hp
open Sp05
/-! ### the places as a row: what the laying loop holds -/
abbrev Lay := List (Nat × Key × Nat)
def laidAt (acc : Lay) (p : Nat) : Option Key := (acc.find? fun x => x.1 == p).map (·.2.1)
theorem laidAt_none {acc : Lay} {p : Nat} : laidAt acc p = none ↔ takenAt acc p = false := by
  unfold laidAt takenAt
  rw [Option.map_eq_none_iff, List.find?_eq_none, List.any_eq_false]
theorem laidAt_nil (p : Nat) : laidAt [] p = none := rfl
/-- the row of places says what is laid -/
structure Places (n : Nat) (P : List (Option Key)) (acc : Lay) : Prop where
  len : P.length = n
  at_ : ∀ p, p < n → P[p]? = some (laidAt acc p)
  full : ∀ x ∈ acc, P[x.1]? = some (some x.2.1)
theorem places_nil (n : Nat) : Places n (List.replicate n none) [] := ⟨List.length_replicate, fun p h => by rw [List.getElem?_replicate, if_pos h]; rfl, fun x hx => nomatch hx⟩
theorem laidAt_snoc {acc : Lay} {q : Nat} {x : Key × Nat} (p : Nat) (hq : takenAt acc q = false) : laidAt (acc ++ [(q, x)]) p = if p = q then some x.1 else laidAt acc p := by
  unfold laidAt
  rw [List.find?_append]
  by_cases e : p = q
  · subst e
    rw [if_pos rfl]
    have h : acc.find? (fun x => x.1 == p) = none := by
      have := laidAt_none.mpr hq
      unfold laidAt at this
      exact Option.map_eq_none_iff.mp this
    rw [h]
    simp
  · rw [if_neg e]
    have h : [(q, x)].find? (fun y => y.1 == p) = none := by
      simp
      omega
    rw [h, Option.or_none]
theorem Places.set {n : Nat} {P : List (Option Key)} {acc : Lay} (h : Places n P acc) {q : Nat} {x : Key × Nat} (hq : takenAt acc q = false) (hqn : q < n) : Places n (P.set q (some x.1)) (acc ++ [(q, x)]) := by
  refine ⟨by rw [List.length_set, h.len], fun p hp => ?_, fun y hy => ?_⟩
  case refine_2 =>
    rw [List.getElem?_set]
    rcases List.mem_append.mp hy with hy | hy
    · have ne : q ≠ y.1 := fun e => by
        unfold takenAt at hq
        rw [List.any_eq_false] at hq
        exact hq y hy (beq_iff_eq.mpr e.symm)
      rw [if_neg ne]
      exact h.full y hy
    · have e : y = (q, x) := by simpa using hy
      subst e
      rw [if_pos rfl, if_pos (by rw [h.len]; exact hqn)]
  rw [laidAt_snoc p hq, List.getElem?_set]
  by_cases e : q = p
  · subst e
    rw [if_pos rfl, if_pos rfl, if_pos (by rw [h.len]; exact hp)]
  · rw [if_neg e, if_neg (fun z => e z.symm)]
    exact h.at_ p hp
/-! ### the way round -/
theorem round_all {n h p : Nat} (hp : p < n) : ∃ i, i < n ∧ (h + i) % n = p := by
  have hn : 0 < n := by omega
  have hm : h % n < n := Nat.mod_lt _ hn
  by_cases c : h % n ≤ p
  · refine ⟨p - h % n, by omega, ?_⟩
    rw [Nat.add_mod, Nat.mod_eq_of_lt (show p - h % n < n by omega), show h % n + (p - h % n) = p by omega, Nat.mod_eq_of_lt hp]
  · refine ⟨p + n - h % n, by omega, ?_⟩
    rw [Nat.add_mod, Nat.mod_eq_of_lt (show p + n - h % n < n by omega), show h % n + (p + n - h % n) = p + n by omega, Nat.add_mod_right, Nat.mod_eq_of_lt hp]
/-- fewer keys lie than there are places: before the way round ends a free one is met -/
theorem round_next {n h j : Nat} {acc : Lay} (few : acc.length < n) (hj : j < n) (ht : ∀ i, i ≤ j → takenAt acc ((h + i) % n) = true) : j + 1 < n := by
  by_cases c : j + 1 < n
  · exact c
  · have all : ∀ p, p < n → takenAt acc p = true := fun p hp => by
      obtain ⟨i, hi, e⟩ := round_all (h := h) hp
      rw [← e]
      exact ht i (by omega)
    have := taken_all n acc all
    omega
theorem round_step (n h j : Nat) : ((h + j) % n + 1) % n = (h + (j + 1)) % n := by
  rw [Nat.mod_add_mod]
  rfl
/-! ### the layout, key by key -/
def layFrom (s : Abs) (l : List (Key × Nat)) (acc : Lay) : Lay := l.foldl (fun l x => l ++ [(s.free l x.1, x)]) acc
theorem layout_eq (s : Abs) : s.layout = layFrom s s.sorted [] := rfl
theorem layFrom_cons (s : Abs) (x : Key × Nat) (l : List (Key × Nat)) (acc : Lay) : layFrom s (x :: l) acc = layFrom s l (acc ++ [(s.free acc x.1, x)]) := rfl
theorem layFrom_snd (s : Abs) (l : List (Key × Nat)) (acc : Lay) : (layFrom s l acc).map (·.2) = acc.map (·.2) ++ l := layFold_snd s l acc
/-! ### rank: how many keys come first -/
def rank (s : Abs) (k : Key) : Nat := (s.keys.filter fun x => s.less x.1 k).length
theorem rank_lt {s : Abs} {a b : Key} (h : s.less a b = true) (ha : a ∈ s.keys.map (·.1)) : rank s a < rank s b := by
  obtain ⟨x, hx, e⟩ := List.mem_map.mp ha
  unfold rank
  have go : ∀ (l : List (Key × Nat)), (l.filter fun y => s.less y.1 a).length ≤ (l.filter fun y => s.less y.1 b).length ∧ (x ∈ l → (l.filter fun y => s.less y.1 a).length < (l.filter fun y => s.less y.1 b).length) := by
    intro l
    induction l with
    | nil =>
      rw [List.filter_nil, List.filter_nil]
      exact ⟨Nat.le_refl _, fun z => absurd z (by simp)⟩
    | cons y l ih =>
      by_cases ya : s.less y.1 a = true
      · have yb : s.less y.1 b = true := less_trans s ya h
        rw [List.filter_cons, if_pos ya, List.filter_cons, if_pos yb, List.length_cons, List.length_cons]
        refine ⟨by omega, fun m => ?_⟩
        rcases List.mem_cons.mp m with m | m
        · rw [← m, e] at ya
          exact absurd ya (less_irrefl s a)
        · have := ih.2 m
          omega
      · rw [List.filter_cons, if_neg ya]
        by_cases yb : s.less y.1 b = true
        · rw [List.filter_cons, if_pos yb, List.length_cons]
          exact ⟨by omega, fun _ => by omega⟩
        · rw [List.filter_cons, if_neg yb]
          refine ⟨ih.1, fun m => ?_⟩
          rcases List.mem_cons.mp m with m | m
          · rw [← m, e] at yb
            exact absurd h yb
          · exact ih.2 m
  exact (go s.keys).2 hx
theorem rank_iff {s : Abs} {a b : Key} (ha : a ∈ s.keys.map (·.1)) (hb : b ∈ s.keys.map (·.1)) : s.less a b = decide (rank s a < rank s b) := by
  by_cases h : s.less a b = true
  · rw [h, decide_eq_true (rank_lt h ha)]
  · have h' : s.less a b = false := by simpa using h
    rw [h']
    refine (decide_eq_false ?_).symm
    rcases less_total s a b with e | e | e
    · rw [e]
      omega
    · exact absurd e h
    · have := rank_lt e hb
      omega
theorem rank_le (s : Abs) (k : Key) : rank s k ≤ s.keys.length := List.length_filter_le _ _
/-- rows by rank are the order -/
theorem ordered_of_rank {s : Abs} : ∀ {l : List (Key × Nat)}, (∀ x ∈ l, x.1 ∈ s.keys.map (·.1)) → (l.map (·.1)).Nodup → l.Pairwise (fun x y => rank s x.1 ≤ rank s y.1) → Ordered s l
  | [], _, _, _ => List.Pairwise.nil
  | x :: l, hm, hn, hp => by
    rw [List.map_cons, List.nodup_cons] at hn
    rw [List.pairwise_cons] at hp
    unfold Ordered
    rw [List.pairwise_cons]
    refine ⟨fun y hy => ?_, ordered_of_rank (fun z hz => hm z (List.mem_cons_of_mem _ hz)) hn.2 hp.2⟩
    rcases less_total s x.1 y.1 with e | e | e
    · exact absurd (e ▸ List.mem_map_of_mem hy) hn.1
    · exact e
    · have := rank_lt e (hm y (List.mem_cons_of_mem _ hy))
      have := hp.1 y hy
      omega
/-! ### what place and walk tell -/
theorem find_once {α : Type} {β : Type} [BEq β] [LawfulBEq β] (f : α → β) : ∀ {l : List α} {x : α}, (l.map f).Nodup → x ∈ l → l.find? (fun y => f y == f x) = some x
  | [], _, _, h => nomatch h
  | y :: l, x, hn, h => by
    rw [List.map_cons, List.nodup_cons] at hn
    rcases List.mem_cons.mp h with rfl | h
    · rw [List.find?_cons, show (f x == f x) = true from beq_iff_eq.mpr rfl]
    · have ne : (f y == f x) = false := beq_eq_false_iff_ne.mpr fun e => hn.1 (e ▸ List.mem_map_of_mem h)
      rw [List.find?_cons, ne]
      exact find_once f hn.2 h
theorem layout_keys_nodup {s : Abs} (g : Good s) : (s.layout.map fun x => x.2.1).Nodup := by
  have e : s.layout.map (fun x => x.2.1) = (s.layout.map (·.2)).map (·.1) := by rw [List.map_map]; rfl
  rw [e, layout_snd]
  exact ((sorted_perm s).map _).nodup_iff.mpr g.once
theorem mem_laid {s : Abs} {P : List (Option Key)} {n p : Nat} {k : Key} (h : Places n P s.layout) (e : P[p]? = some (some k)) : ∃ v, (p, k, v) ∈ s.layout := by
  have hp : p < n := by
    have := (List.getElem?_eq_some_iff.mp e).1
    rw [h.len] at this
    exact this
  have e1 := (h.at_ p hp).symm.trans e
  have e2 : laidAt s.layout p = some k := Option.some.inj e1
  unfold laidAt at e2
  obtain ⟨y, hy, ek⟩ := Option.map_eq_some_iff.mp e2
  have hm := List.mem_of_find?_eq_some hy
  have hpy : y.1 = p := by
    have q := List.find?_some hy
    exact eq_of_beq q
  obtain ⟨a, b, c⟩ := y
  have ek : b = k := ek
  have hpy : a = p := hpy
  subst ek hpy
  exact ⟨c, hm⟩
theorem place_of {s : Abs} (g : Good s) {P : List (Option Key)} {n p : Nat} {k : Key} (h : Places n P s.layout) (e : P[p]? = some (some k)) : s.place k = some p := by
  obtain ⟨v, hv⟩ := mem_laid h e
  unfold Abs.place
  have := find_once (fun (x : Nat × Key × Nat) => x.2.1) (layout_keys_nodup g) hv
  rw [this]
  rfl
theorem place_once {s : Abs} (g : Good s) {P : List (Option Key)} {n p q : Nat} {k : Key} (h : Places n P s.layout) (e : P[p]? = some (some k)) (e' : P[q]? = some (some k)) : p = q := by
  have h1 := place_of g h e
  rw [place_of g h e'] at h1
  exact (Option.some.inj h1).symm
theorem value_of_mem {s : Abs} (g : Good s) {k : Key} {v : Nat} (h : (k, v) ∈ s.keys) : s.value k = some v := by
  unfold Abs.value
  have := find_once (fun (x : Key × Nat) => x.1) g.once h
  rw [this]
  rfl
theorem mem_of_value {s : Abs} {k : Key} {v : Nat} (h : s.value k = some v) : (k, v) ∈ s.keys := by
  unfold Abs.value at h
  obtain ⟨y, hy, e⟩ := Option.map_eq_some_iff.mp h
  have hm := List.mem_of_find?_eq_some hy
  have hk : y.1 = k := by
    have q := List.find?_some hy
    exact eq_of_beq q
  obtain ⟨a, b⟩ := y
  have e : b = v := e
  have hk : a = k := hk
  subst e hk
  exact hm
theorem round_in {n h : Nat} (f : Nat → Bool) (hn : 1 ≤ n) : (((List.range n).map fun i => (h + i) % n).find? f).getD 0 < n := by
  cases e : ((List.range n).map fun i => (h + i) % n).find? f with
  | none => exact hn
  | some p =>
    have := List.mem_of_find?_eq_some e
    obtain ⟨i, _, rfl⟩ := List.mem_map.mp this
    exact Nat.mod_lt _ (by omega)
theorem free_in {s : Abs} {acc : Lay} {k : Key} (hs : 1 ≤ s.slots) : s.free acc k < s.slots := by
  unfold Abs.free
  exact round_in _ hs
theorem lay_in {s : Abs} (hs : 1 ≤ s.slots) : ∀ (l : List (Key × Nat)) (acc : Lay), (∀ x ∈ acc, x.1 < s.slots) → ∀ x ∈ layFrom s l acc, x.1 < s.slots
  | [], _, h => h
  | y :: l, acc, h => by
    rw [layFrom_cons]
    refine lay_in hs l _ fun x hx => ?_
    rcases List.mem_append.mp hx with hx | hx
    · exact h x hx
    · have : x = (s.free acc y.1, y) := by simpa using hx
      rw [this]
      exact free_in hs
theorem at_some {s : Abs} (g : Good s) {P : List (Option Key)} {n p : Nat} {k : Key} (h : Places n P s.layout) (e : P[p]? = some (some k)) : ∃ v, s.at_ p = some (k, v) ∧ s.value k = some v := by
  have hp : p < n := by
    have := (List.getElem?_eq_some_iff.mp e).1
    rw [h.len] at this
    exact this
  have e1 := (h.at_ p hp).symm.trans e
  have e2 : laidAt s.layout p = some k := Option.some.inj e1
  unfold laidAt at e2
  obtain ⟨y, hy, ek⟩ := Option.map_eq_some_iff.mp e2
  refine ⟨y.2.2, ?_, ?_⟩
  · unfold Abs.at_
    rw [hy, ← ek]
    rfl
  · have hm : y.2 ∈ s.keys := by
      refine at_mem (s := s) (p := p) ?_
      unfold Abs.at_
      rw [hy]
      rfl
    rw [← ek]
    exact value_of_mem g hm
theorem at_none {s : Abs} {P : List (Option Key)} {p : Nat} (h : Places s.slots P s.layout) (e : P[p]? = some none) : s.at_ p = none := by
  have hp : p < s.slots := by
    have := (List.getElem?_eq_some_iff.mp e).1
    rw [h.len] at this
    exact this
  have e1 := (h.at_ p hp).symm.trans e
  have e2 : laidAt s.layout p = none := Option.some.inj e1
  unfold laidAt at e2
  unfold Abs.at_
  rw [Option.map_eq_none_iff.mp e2]
  rfl
theorem at_out {s : Abs} (hs : 1 ≤ s.slots) {p : Nat} (h : s.slots ≤ p) : s.at_ p = none := by
  unfold Abs.at_
  have : s.layout.find? (fun x => x.1 == p) = none := by
    rw [List.find?_eq_none]
    intro x hx e
    have e' : x.1 = p := eq_of_beq e
    have := lay_in hs s.sorted [] (fun x hx => nomatch hx) x hx
    omega
  rw [this]
  rfl
theorem place_none {s : Abs} {k : Key} (h : s.value k = none) : s.place k = none := by
  unfold Abs.place
  have : s.layout.find? (fun x => x.2.1 == k) = none := by
    rw [List.find?_eq_none]
    intro x hx e
    have e' : x.2.1 = k := eq_of_beq e
    have m : x.2 ∈ s.sorted := by
      rw [← layout_snd]
      exact List.mem_map_of_mem hx
    have m2 := (sorted_perm s).mem_iff.mp m
    exact value_none h (e' ▸ List.mem_map_of_mem m2)
  rw [this]
  rfl
/-- a kept key lies somewhere -/
theorem place_some {s : Abs} {k : Key} {v : Nat} (hs : 1 ≤ s.slots) (h : s.value k = some v) : ∃ p, p < s.slots ∧ ∃ v, (p, k, v) ∈ s.layout := by
  have m := mem_of_value h
  have m2 := (sorted_perm s).mem_iff.mpr m
  rw [← layout_snd] at m2
  obtain ⟨x, hx, e⟩ := List.mem_map.mp m2
  refine ⟨x.1, lay_in hs s.sorted [] (fun x hx => nomatch hx) x hx, x.2.2, ?_⟩
  have e : x.2 = (k, v) := e
  obtain ⟨a, b, c⟩ := x
  have e1 : b = k := congrArg Prod.fst e
  subst e1
  exact hx
end Hp
end
section
set_option linter.all false
set_option maxRecDepth 100000
set_option maxHeartbeats 200000
namespace HpS
open PySem PyProof.Rows
open PySem.Sem (wp)
/-! ### two runs of the same sorting, abreast: the keys of one are the other's by f -/
structure Ab where
  M : Model
  g : Ctx
  s : Shared
  t : Shared
  E : Value → Pos → Shared → Prop
  D : Value → Pos → Shared → Prop
  f : Keyed → Keyed
  V : Keyed → Prop
  c : Keyed → Keyed → Bool
  kd : SortKind
  ke : SortKind
structure Ab.Ok (X : Ab) : Prop where
  real : ∀ x y, X.V x → X.V y → ∀ (p : Pos) (Q : Bool → Pos → Shared → Prop) (E : Value → Pos → Shared → Prop), (∀ q, Q (X.c x y) q X.s) → wp X.M X.g (keyLt' X.kd x.1 y.1) Q E p X.s
  ghost : ∀ x y, X.V x → X.V y → ∀ (p : Pos) (Q : Bool → Pos → Shared → Prop) (E : Value → Pos → Shared → Prop), wp X.M X.g (keyLt' X.ke (X.f x).1 (X.f y).1) Q E p X.t → ∃ q, Q (X.c x y) q X.t
def KR (X : Ab) (x y : Keyed) : Prop := y = X.f x ∧ X.V x
def AR (X : Ab) (a b : Array Keyed) : Prop := b = a.map X.f ∧ ∀ x ∈ a, X.V x
structure SR (X : Ab) (u v : SortSt) : Prop where
  k1 : kindOf u = X.kd
  k2 : kindOf v = X.ke
  arr : AR X (arrOf u) (arrOf v)
  pend : pendingOf v = pendingOf u
  gal : gallopOf v = gallopOf u
  f1 : failedOf u = none
  f2 : failedOf v = none
def Sim (X : Ab) {α β : Type} (R : α → β → Prop) (m : StateT SortSt Sem α) (n : StateT SortSt Sem β) : Prop :=
  ∀ u v, SR X u v → ∀ (Q : α × SortSt → Pos → Shared → Prop) (P : β × SortSt → Pos → Shared → Prop) p q,
    (∀ a b u' v' p' q', R a b → SR X u' v' → P (b, v') q' X.t → Q (a, u') p' X.s) → wp X.M X.g (n.run v) P X.D q X.t → wp X.M X.g (m.run u) Q X.E p X.s
section
variable {X : Ab} {α β γ δ : Type} {R : α → β → Prop} {T : γ → δ → Prop}
theorem sim_pure {a : α} {b : β} (h : R a b) : Sim X R (pure a) (pure b) := by
  intro u v r Q P p q k w
  rw [StateT.run_pure] at w ⊢
  exact k a b u v p q h r w
theorem sim_bind {m : StateT SortSt Sem α} {n : StateT SortSt Sem β} {k : α → StateT SortSt Sem γ} {l : β → StateT SortSt Sem δ} (h1 : Sim X R m n) (h2 : ∀ a b, R a b → Sim X T (k a) (l b)) : Sim X T (m >>= k) (n >>= l) := by
  intro u v r Q P p q g w
  rw [StateT.run_bind, Sem.wp_bind'] at w ⊢
  exact h1 u v r _ _ p q (fun a b u' v' p' q' hR hS hw => h2 a b hR u' v' hS Q P p' q' g hw) w
theorem sim_bindE {m n : StateT SortSt Sem α} {k : α → StateT SortSt Sem γ} {l : α → StateT SortSt Sem δ} (h1 : Sim X Eq m n) (h2 : ∀ a, Sim X T (k a) (l a)) : Sim X T (m >>= k) (n >>= l) :=
  sim_bind h1 fun a b e => by subst e; exact h2 a
theorem sim_ite {c : Prop} [Decidable c] {m m' : StateT SortSt Sem α} {n n' : StateT SortSt Sem β} (h1 : c → Sim X R m n) (h2 : ¬ c → Sim X R m' n') : Sim X R (if c then m else m') (if c then n else n') := by
  by_cases h : c
  · rw [if_pos h, if_pos h]; exact h1 h
  · rw [if_neg h, if_neg h]; exact h2 h
theorem sim_get {k : SortSt → StateT SortSt Sem γ} {l : SortSt → StateT SortSt Sem δ} (h : ∀ u v, SR X u v → Sim X T (k u) (l v)) : Sim X T (get >>= k) (get >>= l) := by
  intro u v r Q P p q g w
  rw [StateT.run_bind, StateT.run_get, Sem.wp_bind', Sem.wp_pure'] at w ⊢
  exact h u v r u v r Q P p q g w
theorem sim_modify {F G : SortSt → SortSt} (h : ∀ u v, SR X u v → SR X (F u) (G v)) : Sim X Eq (modify F : StateT SortSt Sem PUnit) (modify G) := by
  intro u v r Q P p q g w
  rw [StateT.run_modify] at w ⊢
  exact g _ _ _ _ p q rfl (h u v r) w
theorem sim_set {u0 v0 : SortSt} (h : SR X u0 v0) : Sim X Eq (set u0 : StateT SortSt Sem PUnit) (set v0) := by
  intro u v r Q P p q g w
  rw [StateT.run_set] at w ⊢
  exact g _ _ _ _ p q rfl h w
theorem sim_rule {tag : String} : Sim X Eq (liftM (rule tag) : StateT SortSt Sem Unit) (liftM (rule tag)) := by
  intro u v r Q P p q g w
  exact g () () u v p q rfl r w
theorem sim_no {what : String} {m : StateT SortSt Sem α} : Sim X R m (liftM (unsupported what : Sem β)) := by
  intro u v r Q P p q g w
  exact False.elim w
theorem sim_for {γ δ : Type} {R : γ → δ → Prop} {F : Nat → γ → StateT SortSt Sem (ForInStep γ)} {G : Nat → δ → StateT SortSt Sem (ForInStep δ)}
    (h : ∀ i b d, R b d → Sim X (fun x y => match x, y with | .done b, .done d => R b d | .yield b, .yield d => R b d | _, _ => False) (F i b) (G i d)) : ∀ (l : List Nat) (b : γ) (d : δ), R b d → Sim X R (forIn l b F) (forIn l d G)
  | [], b, d, r => by rw [List.forIn_nil, List.forIn_nil]; exact sim_pure r
  | i :: l, b, d, r => by
    rw [List.forIn_cons, List.forIn_cons]
    refine sim_bind (h i b d r) fun x y hxy => ?_
    cases x <;> cases y
    · exact sim_pure hxy
    · exact hxy.elim
    · exact hxy.elim
    · exact sim_for h l _ _ hxy
theorem sim_range {a e : Nat} {γ δ : Type} {R : γ → δ → Prop} {F : Nat → γ → StateT SortSt Sem (ForInStep γ)} {G : Nat → δ → StateT SortSt Sem (ForInStep δ)} {b : γ} {d : δ}
    (h : ∀ i b d, R b d → Sim X (fun x y => match x, y with | .done b, .done d => R b d | .yield b, .yield d => R b d | _, _ => False) (F i b) (G i d)) (r : R b d) : Sim X R (forIn [a:e] b F) (forIn [a:e] d G) := by
  rw [Std.Legacy.Range.forIn_eq_forIn_range', Std.Legacy.Range.forIn_eq_forIn_range']
  exact sim_for h _ _ _ r
theorem sim_rangeE {a e : Nat} {γ : Type} {F G : Nat → γ → StateT SortSt Sem (ForInStep γ)} {b : γ} (h : ∀ i b, Sim X Eq (F i b) (G i b)) : Sim X Eq (forIn [a:e] b F) (forIn [a:e] b G) := by
  refine sim_range (fun i b d r => ?_) rfl
  subst r
  intro u v r Q P p q g w
  refine h i b u v r Q P p q (fun x y u' v' p' q' e hS hw => g x y u' v' p' q' ?_ hS hw) w
  subst e
  cases x <;> rfl
theorem sim_elem {a b : Array Keyed} {i : Nat} (h : AR X a b) : Sim X (KR X) (elem' a i) (elem' b i) := by
  rw [elem'_eq, elem'_eq, h.1, Array.getElem?_map]
  cases e : a[i]? with
  | none => exact sim_no
  | some x => exact sim_pure ⟨rfl, h.2 x (Array.mem_of_getElem? e)⟩
theorem sim_lt (O : X.Ok) {x y x' y' : Keyed} (hx : KR X x x') (hy : KR X y y') : Sim X Eq (lt' x y) (lt' x' y') := by
  obtain ⟨rfl, vx⟩ := hx
  obtain ⟨rfl, vy⟩ := hy
  rw [lt'_eq, lt'_eq]
  refine sim_get fun u v r => ?_
  rw [r.k1, r.k2]
  intro u1 v1 r1 Q P p q g w
  rw [StateT.run_bind, Sem.wp_bind'] at w ⊢
  have e : ∀ (m : Sem Bool) (st : SortSt), (liftM m.attempt : StateT SortSt Sem (Except Value Bool)).run st = m.attempt >>= fun a => pure (a, st) := fun m st => rfl
  rw [e, Sem.wp_bind', Sem.wp_attempt] at w ⊢
  refine O.real x y vx vy p _ _ fun p' => ?_
  obtain ⟨q', w'⟩ := O.ghost x y vx vy q _ _ w
  exact g _ _ _ _ _ _ rfl r1 w'
theorem sim_ltAt (O : X.Ok) {i j : Nat} : Sim X Eq (ltAt' i j) (ltAt' i j) := by
  rw [ltAt'_eq]
  refine sim_get fun u v r => sim_bind (sim_elem r.arr) fun a b h => sim_bind (sim_elem r.arr) fun a' b' h' => sim_lt O h h'
end
/-! ### rows of pairs -/
section
variable {X : Ab} {a b a' b' : Array Keyed}
theorem AR.size (h : AR X a b) : b.size = a.size := by rw [h.1, Array.size_map]
theorem AR.append (h : AR X a b) (h' : AR X a' b') : AR X (a ++ a') (b ++ b') := by
  refine ⟨by rw [h.1, h'.1, Array.map_append], fun x hx => ?_⟩
  rcases Array.mem_append.mp hx with hx | hx
  · exact h.2 x hx
  · exact h'.2 x hx
theorem AR.push {x y : Keyed} (h : AR X a b) (k : KR X x y) : AR X (a.push x) (b.push y) := by
  refine ⟨by rw [h.1, k.1, Array.map_push], fun z hz => ?_⟩
  rcases Array.mem_push.mp hz with hz | rfl
  · exact h.2 z hz
  · exact k.2
theorem AR.one {x y : Keyed} (k : KR X x y) : AR X #[x] #[y] := by
  refine ⟨by rw [k.1]; simp, fun z hz => ?_⟩
  have : z = x := by simpa using hz
  rw [this]
  exact k.2
theorem AR.get? (h : AR X a b) (i : Nat) : b[i]? = a[i]?.map X.f := by rw [h.1, Array.getElem?_map]
theorem AR.of_get? (hs : b.size = a.size) (h : ∀ i, i < a.size → ∃ x, a[i]? = some x ∧ b[i]? = some (X.f x) ∧ X.V x) : AR X a b := by
  constructor
  · refine Array.ext (by rw [Array.size_map, hs]) fun i h1 h2 => ?_
    obtain ⟨x, e1, e2, _⟩ := h i (by rw [← hs]; exact h1)
    rw [Array.getElem?_eq_getElem h1] at e2
    rw [Array.getElem_map]
    rw [Array.getElem?_eq_getElem (by rw [← hs]; exact h1)] at e1
    rw [Option.some.inj e2, Option.some.inj e1]
  · intro x hx
    obtain ⟨i, hi, e⟩ := Array.mem_iff_getElem.mp hx
    obtain ⟨y, e1, _, v⟩ := h i hi
    rw [Array.getElem?_eq_getElem hi, e] at e1
    rw [Option.some.inj e1]
    exact v
theorem AR.at (h : AR X a b) {i : Nat} (hi : i < a.size) : ∃ x, a[i]? = some x ∧ b[i]? = some (X.f x) ∧ X.V x :=
  ⟨a[i], Array.getElem?_eq_getElem hi, by rw [h.get?, Array.getElem?_eq_getElem hi]; rfl, h.2 _ (Array.getElem_mem hi)⟩
theorem AR.extract (h : AR X a b) (i j : Nat) : AR X (a.extract i j) (b.extract i j) := by
  refine AR.of_get? (by rw [Array.size_extract, Array.size_extract, h.size]) fun k hk => ?_
  rw [Array.size_extract] at hk
  obtain ⟨x, e1, e2, v⟩ := h.at (i := i + k) (by omega)
  refine ⟨x, ?_, ?_, v⟩
  · rw [Array.getElem?_extract, if_pos hk]; exact e1
  · rw [Array.getElem?_extract, if_pos (by rw [h.size]; exact hk)]; exact e2
theorem AR.reverse (h : AR X a b) : AR X a.reverse b.reverse := by
  refine ⟨by rw [h.1, Array.map_reverse], fun x hx => h.2 x (by simpa using hx)⟩
theorem AR.swap (h : AR X a b) (i j : Nat) : AR X (a.swapIfInBounds i j) (b.swapIfInBounds i j) := by
  rw [Array.swapIfInBounds_def, Array.swapIfInBounds_def]
  by_cases hi : i < a.size
  · by_cases hj : j < a.size
    · have hi' : i < b.size := by rw [h.size]; exact hi
      have hj' : j < b.size := by rw [h.size]; exact hj
      rw [dif_pos hi, dif_pos hj, dif_pos hi', dif_pos hj']
      refine AR.of_get? (by rw [Array.size_swap, Array.size_swap, h.size]) fun k hk => ?_
      rw [Array.size_swap] at hk
      rw [Array.getElem?_swap, Array.getElem?_swap]
      by_cases e1 : j = k
      · rw [if_pos e1, if_pos e1]
        obtain ⟨x, e1, e2, v⟩ := h.at hi
        rw [Array.getElem?_eq_getElem hi] at e1
        rw [Array.getElem?_eq_getElem hi'] at e2
        exact ⟨x, e1, e2, v⟩
      · rw [if_neg e1, if_neg e1]
        by_cases e2 : i = k
        · rw [if_pos e2, if_pos e2]
          obtain ⟨x, e1, e2, v⟩ := h.at hj
          rw [Array.getElem?_eq_getElem hj] at e1
          rw [Array.getElem?_eq_getElem hj'] at e2
          exact ⟨x, e1, e2, v⟩
        · rw [if_neg e2, if_neg e2]
          exact h.at hk
    · rw [dif_pos hi, dif_neg hj, dif_pos (by rw [h.size]; exact hi), dif_neg (by rw [h.size]; exact hj)]
      exact h
  · rw [dif_neg hi, dif_neg (by rw [h.size]; exact hi)]
    exact h
theorem AR.fold {γ : Type} {F : Array Keyed → γ → Array Keyed} {G : Array Keyed → γ → Array Keyed} (step : ∀ a b x, AR X a b → AR X (F a x) (G b x)) : ∀ (l : List γ) {a b : Array Keyed}, AR X a b → AR X (l.foldl F a) (l.foldl G b)
  | [], _, _, h => h
  | x :: l, _, _, h => by rw [List.foldl_cons, List.foldl_cons]; exact AR.fold step l (step _ _ x h)
theorem AR.mirror (h : AR X a b) (i j d : Nat) : AR X (PyProof.Rows.mirror a i j d) (PyProof.Rows.mirror b i j d) := by
  unfold PyProof.Rows.mirror
  exact AR.fold (F := fun a k => a.swapIfInBounds (i + k) (j - 1 - k)) (G := fun a k => a.swapIfInBounds (i + k) (j - 1 - k)) (fun _ _ k r => r.swap _ _) _ h
theorem AR.bubble (h : AR X a b) (i d : Nat) : AR X (PyProof.Rows.bubble a i d) (PyProof.Rows.bubble b i d) := by
  unfold PyProof.Rows.bubble
  exact AR.fold (F := fun a k => a.swapIfInBounds (i - k) (i - k - 1)) (G := fun a k => a.swapIfInBounds (i - k) (i - k - 1)) (fun _ _ k r => r.swap _ _) _ h
theorem AR.setIB (h : AR X a b) {x y : Keyed} (k : KR X x y) (i : Nat) : AR X (a.setIfInBounds i x) (b.setIfInBounds i y) := by
  refine AR.of_get? (by rw [Array.size_setIfInBounds, Array.size_setIfInBounds, h.size]) fun j hj => ?_
  rw [Array.size_setIfInBounds] at hj
  rw [Array.getElem?_setIfInBounds, Array.getElem?_setIfInBounds]
  by_cases e : i = j
  · subst e
    rw [if_pos rfl, if_pos rfl, if_pos hj, if_pos (by rw [h.size]; exact hj)]
    exact ⟨x, rfl, by rw [k.1], k.2⟩
  · rw [if_neg e, if_neg e]
    exact h.at hj
/-- the merged row laid back -/
theorem AR.laid (m : Nat) : ∀ (l : List Keyed) (i : Nat) {a b : Array Keyed}, (∀ x ∈ l, X.V x) → AR X a b →
    AR X ((l.zipIdx i).foldl (fun a (q : Keyed × Nat) => a.setIfInBounds (m + q.2) q.1) a) (((l.map X.f).zipIdx i).foldl (fun a (q : Keyed × Nat) => a.setIfInBounds (m + q.2) q.1) b)
  | [], _, _, _, _, h => h
  | x :: l, i, a, b, hv, h => by
    rw [List.map_cons, List.zipIdx_cons, List.zipIdx_cons, List.foldl_cons, List.foldl_cons]
    exact AR.laid m l (i + 1) (fun y hy => hv y (List.mem_cons_of_mem _ hy)) (h.setIB ⟨rfl, hv x (List.mem_cons_self ..)⟩ _)
end
section
variable {X : Ab}
theorem SR.setArr {u v : SortSt} (r : SR X u v) {a b : Array Keyed} (h : AR X a b) : SR X (PyProof.Rows.setArr u a) (PyProof.Rows.setArr v b) := ⟨r.k1, r.k2, h, r.pend, r.gal, r.f1, r.f2⟩
theorem SR.setPend {u v : SortSt} (r : SR X u v) {p q : Array (Nat × Nat × Nat)} (h : q = p) : SR X (setPending u p) (setPending v q) := ⟨r.k1, r.k2, r.arr, h, r.gal, r.f1, r.f2⟩
theorem SR.setGal {u v : SortSt} (r : SR X u v) (g : Nat) : SR X (setGallop u g) (setGallop v g) := ⟨r.k1, r.k2, r.arr, r.pend, rfl, r.f1, r.f2⟩
theorem sim_reverse {i j : Nat} : Sim X Eq (reverseSlice' i j) (reverseSlice' i j) := by
  rw [reverseSlice'_eq]
  exact sim_modify fun u v r => r.setArr (r.arr.mirror _ _ _)
theorem sim_move {i j : Nat} : Sim X Eq (moveDown' i j) (moveDown' i j) := by
  rw [moveDown'_eq]
  exact sim_modify fun u v r => r.setArr (r.arr.bubble _ _)
theorem sim_gal {g : Nat} : Sim X Eq (setMinGallop' g) (setMinGallop' g) := by
  rw [setMinGallop'_eq]
  exact sim_modify fun u v r => r.setGal _
theorem sim_beyond (O : X.Ok) {left : Bool} {x y : Keyed} {a b : Array Keyed} {n i : Nat} (k : KR X x y) (h : AR X a b) : Sim X Eq (beyond' left x a n i) (beyond' left y b n i) := by
  unfold beyond'
  refine sim_bind (sim_elem h) fun z w hz => ?_
  refine sim_ite (fun _ => sim_lt O hz k) fun _ => sim_bindE (sim_lt O k hz) fun o => sim_pure rfl
theorem sim_bindO {α γ δ : Type} {T : γ → δ → Prop} {m n : StateT SortSt Sem (Option α)} {k : Option α → StateT SortSt Sem γ} {l : Option α → StateT SortSt Sem δ} (h1 : Sim X Eq m n) (h2 : Sim X T (k none) (l none)) (h3 : ∀ a, Sim X T (k (some a)) (l (some a))) :
    Sim X T (m >>= k) (n >>= l) := sim_bindE h1 fun o => by
  cases o with
  | none => exact h2
  | some a => exact h3 a
theorem sim_bindP {α τ γ δ : Type} {T : γ → δ → Prop} {m n : StateT SortSt Sem (Option α × τ)} {k : Option α × τ → StateT SortSt Sem γ} {l : Option α × τ → StateT SortSt Sem δ} (h1 : Sim X Eq m n) (h2 : ∀ t, Sim X T (k (none, t)) (l (none, t))) (h3 : ∀ a t, Sim X T (k (some a, t)) (l (some a, t))) :
    Sim X T (m >>= k) (n >>= l) := sim_bindE h1 fun o => by
  obtain ⟨o, t⟩ := o
  cases o with
  | none => exact h2 t
  | some a => exact h3 a t
/-- what the merging loops carry -/
def LR (X : Ab) {τ : Type} (x y : Option (Array Keyed) × Array Keyed × τ) : Prop :=
  (match x.1, y.1 with | none, none => True | some a, some b => AR X a b | _, _ => False) ∧ AR X x.2.1 y.2.1 ∧ x.2.2 = y.2.2
abbrev StepR {γ δ : Type} (R : γ → δ → Prop) (x : ForInStep γ) (y : ForInStep δ) : Prop := match x, y with | .done b, .done d => R b d | .yield b, .yield d => R b d | _, _ => False
section
variable {τ γ δ : Type} {T : γ → δ → Prop} {a b c d : Array Keyed} {t : τ}
theorem sim_dn (h : AR X a b) : Sim X (StepR (LR X)) (pure (.done ((none : Option (Array Keyed)), a, t))) (pure (.done ((none : Option (Array Keyed)), b, t))) := sim_pure ⟨True.intro, h, rfl⟩
theorem sim_yn (h : AR X a b) : Sim X (StepR (LR X)) (pure (.yield ((none : Option (Array Keyed)), a, t))) (pure (.yield ((none : Option (Array Keyed)), b, t))) := sim_pure ⟨True.intro, h, rfl⟩
theorem sim_ds (h : AR X c d) (h' : AR X a b) : Sim X (StepR (LR X)) (pure (.done (some c, a, t))) (pure (.done (some d, b, t))) := sim_pure ⟨h, h', rfl⟩
theorem sim_bindL {m n : StateT SortSt Sem (Option (Array Keyed) × Array Keyed × τ)} {k : Option (Array Keyed) × Array Keyed × τ → StateT SortSt Sem γ} {l : Option (Array Keyed) × Array Keyed × τ → StateT SortSt Sem δ} (h1 : Sim X (LR X) m n)
    (h2 : ∀ a b t, AR X a b → Sim X T (k (none, a, t)) (l (none, b, t))) (h3 : ∀ c d a b t, AR X c d → AR X a b → Sim X T (k (some c, a, t)) (l (some d, b, t))) : Sim X T (m >>= k) (n >>= l) := sim_bind h1 fun x y r => by
  obtain ⟨o, a, t⟩ := x
  obtain ⟨o', b, t'⟩ := y
  obtain ⟨r1, r2, r3⟩ := r
  have r3 : t = t' := r3
  subst r3
  cases o <;> cases o'
  · exact h2 a b t r2
  · exact r1.elim
  · exact r1.elim
  · exact h3 _ _ a b t r1 r2
theorem sim_loop {i e : Nat} {F G : Nat → Option (Array Keyed) × Array Keyed × τ → StateT SortSt Sem (ForInStep (Option (Array Keyed) × Array Keyed × τ))} (h0 : AR X a b) (h : ∀ j o o' a b t, AR X a b → Sim X (StepR (LR X)) (F j (o, a, t)) (G j (o', b, t))) :
    Sim X (LR X) (forIn [i:e] (none, a, t) F) (forIn [i:e] (none, b, t) G) := by
  refine sim_range (R := LR X) (fun j x y r => ?_) ⟨True.intro, h0, rfl⟩
  obtain ⟨o, a, t⟩ := x
  obtain ⟨o', b, t'⟩ := y
  obtain ⟨r1, r2, r3⟩ := r
  have r3 : t = t' := r3
  subst r3
  exact h j o o' a b t r2
end
theorem sim_binary (O : X.Ok) {lo n ok : Nat} : Sim X Eq (binarySort' lo n ok) (binarySort' lo n ok) := by
  rw [binarySort'_eq]
  repeat' first
    | exact sim_pure rfl
    | refine sim_bindE sim_move fun _ => ?_
    | refine sim_bindO (sim_ltAt O) ?_ fun z => ?_
    | refine sim_bindP (sim_rangeE fun j c => ?_) (fun t => ?_) fun r t => ?_
    | refine sim_ite (fun _ => ?_) fun _ => ?_
    | dsimp only
theorem sim_gallop (O : X.Ok) {left : Bool} {x y : Keyed} {a b : Array Keyed} {base n hint : Nat} (k : KR X x y) (h : AR X a b) : Sim X Eq (gallop' left x a base n hint) (gallop' left y b base n hint) := by
  rw [gallop'_eq, gallop'_eq]
  repeat' first
    | exact sim_pure rfl
    | refine sim_bindO (sim_beyond O k h) ?_ fun z => ?_
    | refine sim_bindP (sim_rangeE fun j c => ?_) (fun t => ?_) fun r t => ?_
    | refine sim_ite (fun _ => ?_) fun _ => ?_
    | dsimp only
theorem sim_count (O : X.Ok) {lo n : Nat} : Sim X Eq (countRun' lo n) (countRun' lo n) := by
  rw [countRun'_eq]
  repeat' first
    | exact sim_pure rfl
    | refine sim_bindE sim_reverse fun _ => ?_
    | refine sim_bindE sim_rule fun _ => ?_
    | refine sim_bindO (sim_ltAt O) ?_ fun z => ?_
    | refine sim_bindP (sim_rangeE fun j c => ?_) (fun t => ?_) fun r t => ?_
    | refine sim_ite (fun _ => ?_) fun _ => ?_
    | dsimp only
theorem sim_mlo (O : X.Ok) {a b a' b' : Array Keyed} (h : AR X a a') (h' : AR X b b') : Sim X (AR X) (mergeLo' a b) (mergeLo' a' b') := by
  rw [mergeLo'_eq, mergeLo'_eq]
  simp only [h.size, h'.size]
  repeat' first
    | with_reducible assumption
    | with_reducible refine AR.append ?_ ?_
    | with_reducible refine AR.extract ?_ _ _
    | with_reducible refine AR.reverse ?_
    | with_reducible refine AR.push ?_ ?_
    | with_reducible refine AR.one ?_
    | with_reducible exact sim_no
    | with_reducible refine sim_dn ?_
    | with_reducible refine sim_yn ?_
    | with_reducible refine sim_ds ?_ ?_
    | with_reducible refine sim_bindE sim_rule fun _ => ?_
    | with_reducible refine sim_bindE sim_gal fun _ => ?_
    | with_reducible refine sim_bind (sim_elem (by with_reducible assumption)) fun x y hk => ?_
    | with_reducible refine sim_bindO (sim_lt O (by with_reducible assumption) (by with_reducible assumption)) ?_ fun z => ?_
    | with_reducible refine sim_bindO (sim_gallop O (by with_reducible assumption) (by with_reducible assumption)) ?_ fun z => ?_
    | refine sim_bindL (sim_loop ?_ fun j o o' a b t h => ?_) (fun a b t h => ?_) fun c d a b t h h' => ?_
    | with_reducible refine sim_ite (fun _ => ?_) fun _ => ?_
    | with_reducible refine sim_pure ?_
    | (with_reducible refine sim_get fun u v r => ?_; rw [r.gal])
    | dsimp only
/-- the same, the row behind two numbers -/
def LR2 (X : Ab) {τ : Type} (x y : Option (Array Keyed) × Nat × Nat × Array Keyed × τ) : Prop := LR X (x.1, x.2.2.2.1, x.2.1, x.2.2.1, x.2.2.2.2) (y.1, y.2.2.2.1, y.2.1, y.2.2.1, y.2.2.2.2)
section
variable {τ γ δ : Type} {T : γ → δ → Prop} {a b c d : Array Keyed} {t : τ} {m n : Nat}
theorem sim_dn2 (h : AR X a b) : Sim X (StepR (LR2 X)) (pure (.done ((none : Option (Array Keyed)), m, n, a, t))) (pure (.done ((none : Option (Array Keyed)), m, n, b, t))) := sim_pure ⟨True.intro, h, rfl⟩
theorem sim_yn2 (h : AR X a b) : Sim X (StepR (LR2 X)) (pure (.yield ((none : Option (Array Keyed)), m, n, a, t))) (pure (.yield ((none : Option (Array Keyed)), m, n, b, t))) := sim_pure ⟨True.intro, h, rfl⟩
theorem sim_ds2 (h : AR X c d) (h' : AR X a b) : Sim X (StepR (LR2 X)) (pure (.done (some c, m, n, a, t))) (pure (.done (some d, m, n, b, t))) := sim_pure ⟨h, h', rfl⟩
theorem LR2.un {o o' : Option (Array Keyed)} {m n m' n' : Nat} {t' : τ} (r : LR2 X (o, m, n, a, t) (o', m', n', b, t')) : m = m' ∧ n = n' ∧ t = t' := by
  obtain ⟨_, _, r3⟩ := r
  have r3 : (m, n, t) = (m', n', t') := r3
  injection r3 with e1 r3
  injection r3 with e2 e3
  exact ⟨e1, e2, e3⟩
theorem sim_bindL2 {μ ν : StateT SortSt Sem (Option (Array Keyed) × Nat × Nat × Array Keyed × τ)} {k : Option (Array Keyed) × Nat × Nat × Array Keyed × τ → StateT SortSt Sem γ} {l : Option (Array Keyed) × Nat × Nat × Array Keyed × τ → StateT SortSt Sem δ} (h1 : Sim X (LR2 X) μ ν)
    (h2 : ∀ m n a b t, AR X a b → Sim X T (k (none, m, n, a, t)) (l (none, m, n, b, t))) (h3 : ∀ c d m n a b t, AR X c d → AR X a b → Sim X T (k (some c, m, n, a, t)) (l (some d, m, n, b, t))) : Sim X T (μ >>= k) (ν >>= l) := sim_bind h1 fun x y r => by
  obtain ⟨o, m, n, a, t⟩ := x
  obtain ⟨o', m', n', b, t'⟩ := y
  obtain ⟨rfl, rfl, rfl⟩ := r.un
  obtain ⟨r1, r2, _⟩ := r
  cases o <;> cases o'
  · exact h2 m n a b t r2
  · exact r1.elim
  · exact r1.elim
  · exact h3 _ _ m n a b t r1 r2
theorem sim_loop2 {i e : Nat} {F G : Nat → Option (Array Keyed) × Nat × Nat × Array Keyed × τ → StateT SortSt Sem (ForInStep (Option (Array Keyed) × Nat × Nat × Array Keyed × τ))} (h0 : AR X a b)
    (h : ∀ j o o' m n a b t, AR X a b → Sim X (StepR (LR2 X)) (F j (o, m, n, a, t)) (G j (o', m, n, b, t))) : Sim X (LR2 X) (forIn [i:e] (none, m, n, a, t) F) (forIn [i:e] (none, m, n, b, t) G) := by
  refine sim_range (R := LR2 X) (fun j x y r => ?_) ⟨True.intro, h0, rfl⟩
  obtain ⟨o, m, n, a, t⟩ := x
  obtain ⟨o', m', n', b, t'⟩ := y
  obtain ⟨rfl, rfl, rfl⟩ := r.un
  exact h j o o' m n a b t r.2.1
end
theorem sim_mhi (O : X.Ok) {a b a' b' : Array Keyed} (h : AR X a a') (h' : AR X b b') : Sim X (AR X) (mergeHi' a b) (mergeHi' a' b') := by
  rw [mergeHi'_eq, mergeHi'_eq]
  simp only [h.size, h'.size]
  repeat' first
    | with_reducible assumption
    | with_reducible refine AR.append ?_ ?_
    | with_reducible refine AR.extract ?_ _ _
    | with_reducible refine AR.reverse ?_
    | with_reducible refine AR.push ?_ ?_
    | with_reducible refine AR.one ?_
    | with_reducible exact sim_no
    | with_reducible refine sim_dn2 ?_
    | with_reducible refine sim_yn2 ?_
    | with_reducible refine sim_ds2 ?_ ?_
    | with_reducible refine sim_bindE sim_rule fun _ => ?_
    | with_reducible refine sim_bindE sim_gal fun _ => ?_
    | with_reducible refine sim_bind (sim_elem (by with_reducible assumption)) fun x y hk => ?_
    | with_reducible refine sim_bindO (sim_lt O (by with_reducible assumption) (by with_reducible assumption)) ?_ fun z => ?_
    | with_reducible refine sim_bindO (sim_gallop O (by with_reducible assumption) (by with_reducible assumption)) ?_ fun z => ?_
    | refine sim_bindL2 (sim_loop2 ?_ fun j o o' m n a b t h => ?_) (fun m n a b t h => ?_) fun c d m n a b t h h' => ?_
    | with_reducible refine sim_ite (fun _ => ?_) fun _ => ?_
    | with_reducible refine sim_pure ?_
    | (with_reducible refine sim_get fun u v r => ?_; rw [r.gal])
    | dsimp only
theorem sim_mergeAt (O : X.Ok) {i : Nat} : Sim X Eq (mergeAt' i) (mergeAt' i) := by
  rw [mergeAt'_eq]
  refine sim_get fun u v r => ?_
  rw [r.pend]
  generalize (pendingOf u)[i]? = o1
  generalize (pendingOf u)[i + 1]? = o2
  cases o1 with
  | none => exact sim_no
  | some x =>
    cases o2 with
    | none => exact sim_no
    | some y =>
      obtain ⟨sa, na, pw⟩ := x
      obtain ⟨sb, nb, pw2⟩ := y
      dsimp only
      refine sim_bindE (sim_set (r.setPend rfl)) fun _ => ?_
      refine sim_bind (sim_elem r.arr) fun x y hk => ?_
      refine sim_bindO (sim_gallop O hk r.arr) (sim_pure rfl) fun k => ?_
      dsimp only
      refine sim_ite (fun _ => sim_pure rfl) fun _ => ?_
      refine sim_bind (sim_elem r.arr) fun x y hk => ?_
      refine sim_bindO (sim_gallop O hk r.arr) (sim_pure rfl) fun nb => ?_
      dsimp only
      refine sim_ite (fun _ => sim_pure rfl) fun _ => ?_
      have fin : ∀ a b, AR X a b → Sim X Eq (do
          modify fun s => setArr s (a.toList.zipIdx.foldl (fun a (q : Keyed × Nat) => a.setIfInBounds (sa + k + q.2) q.1) (arrOf s))
          return (failedOf (← get)).isNone) (do
          modify fun s => setArr s (b.toList.zipIdx.foldl (fun a (q : Keyed × Nat) => a.setIfInBounds (sa + k + q.2) q.1) (arrOf s))
          return (failedOf (← get)).isNone) := fun a b hab => by
        refine sim_bindE (sim_modify fun u v r => r.setArr ?_) fun _ => sim_get fun u v r => ?_
        · rw [hab.1, Array.toList_map]
          exact AR.laid (sa + k) a.toList 0 (fun x hx => hab.2 x (Array.mem_toList_iff.mp hx)) r.arr
        · rw [r.f1, r.f2]
          exact sim_pure rfl
      refine sim_ite (fun _ => ?_) fun _ => ?_
      · exact sim_bind (sim_mlo O (r.arr.extract _ _) (r.arr.extract _ _)) fun a b hab => fin a b hab
      · exact sim_bind (sim_mhi O (r.arr.extract _ _) (r.arr.extract _ _)) fun a b hab => fin a b hab
theorem sim_runs (O : X.Ok) : Sim X Eq sortRuns' sortRuns' := by
  rw [sortRuns'_eq]
  refine sim_get fun u v r => ?_
  rw [r.arr.size]
  repeat' first
    | exact sim_pure rfl
    | refine sim_bindE sim_rule fun _ => ?_
    | refine sim_bindO (sim_count O) ?_ fun z => ?_
    | refine sim_bindE (sim_binary O) fun z => ?_
    | refine sim_bindE (sim_mergeAt O) fun z => ?_
    | refine sim_bindP (sim_rangeE fun j c => ?_) (fun t => ?_) fun r t => ?_
    | refine sim_ite (fun _ => ?_) fun _ => ?_
    | refine sim_bindE (sim_modify fun u v r => r.setPend (by rw [r.pend])) fun _ => ?_
    | (refine sim_get fun u v r => ?_; rw [r.pend])
    | dsimp only
    | split
end
end HpS
end
section
set_option linter.all false
set_option maxRecDepth 100000
set_option maxHeartbeats 400000
namespace HpS
open PySem PyProof.Rows
open PySem.Sem (wp)
/-! ### rows of nothing: the one at the address i has i items -/
def gObj (i : Nat) : Obj := { cls := .type "tuple", data := .seq (List.replicate i Value.none).toArray 0 }
def gHeap (n : Nat) : Heap := { objs := ((List.range n).map gObj).toArray }
def gSt (n : Nat) : Shared := { heap := gHeap n }
theorem g_get {n i : Nat} (h : i < n) : (gSt n).heap.get? i = some (gObj i) := by
  unfold gSt gHeap Heap.get?
  have e : ((List.range n).map gObj).toArray[i]? = some (gObj i) := by simp [h]
  rw [e]
  rfl
theorem wp_eqNone {M : Model} {g : Ctx} {Q : Bool → Pos → Shared → Prop} {E : Value → Pos → Shared → Prop} {p : Pos} {s : Shared} : wp M g (eqBool .none .none) Q E p s = Q true p s := by
  unfold eqBool
  rw [Sem.wp_holding]
  rfl
theorem items_of {M : Model} {g : Ctx} {Q : Array Value → Pos → Shared → Prop} {E : Value → Pos → Shared → Prop} {p : Pos} {s : Shared} {a : Addr} {o : Obj} {xs : Array Value} {n : Nat} (ho : s.heap.get? a = some o) (hd : o.data = .seq xs n)
    (h : wp M g (Builtin.List.listItems (.ref a)) Q E p s) : Q xs p s := by
  unfold Builtin.List.listItems seqItems? at h
  dsimp only at h
  rw [Sem.wp_bind', Sem.wp_bind', show load a = Sem.load a none Sem.pure from rfl, Sem.wp_load] at h
  obtain ⟨o', e, h⟩ := h
  rw [ho] at e
  cases e
  rw [Sem.wp_pure, hd] at h
  exact h
theorem loop_of {M : Model} {g : Ctx} {Q : Option Bool × Unit → Pos → Shared → Prop} {E : Value → Pos → Shared → Prop} {p : Pos} {s : Shared} {b : Bool} : ∀ (l : List (Value × Value)) (i : Nat), (∀ x ∈ l, x = (Value.none, Value.none)) →
    wp M g (forIn (l.zipIdx i) ((none : Option Bool), ()) fun (x : (Value × Value) × Nat) _ => do
      let e ← eqBool x.1.1 x.1.2
      if (!e) = true then do
        let r ← oneLt' (b && x.2 == 0) x.1.1 x.1.2
        pure (ForInStep.done (some r, ()))
      else pure (ForInStep.yield (none, ()))) Q E p s → Q (none, ()) p s
  | [], i, _, h => by
    rw [List.zipIdx_nil, List.forIn_nil] at h
    exact h
  | x :: l, i, hx, h => by
    rw [List.zipIdx_cons, List.forIn_cons, hx x (List.mem_cons_self ..), Sem.wp_bind', Sem.wp_bind', wp_eqNone] at h
    exact loop_of l (i + 1) (fun y hy => hx y (List.mem_cons_of_mem _ hy)) h
theorem nones (i j : Nat) : ∀ x ∈ (List.replicate i Value.none).toArray.toList.zip (List.replicate j Value.none).toArray.toList, x = (Value.none, Value.none) := by
  intro x hx
  obtain ⟨a, b⟩ := x
  have h := List.of_mem_zip hx
  have h1 : a = Value.none := (List.mem_replicate.mp (by simpa using h.1)).2
  have h2 : b = Value.none := (List.mem_replicate.mp (by simpa using h.2)).2
  rw [h1, h2]
theorem ghost_lt {M : Model} {g : Ctx} {n i j : Nat} {b : Bool} {Q : Bool → Pos → Shared → Prop} {E : Value → Pos → Shared → Prop} {p : Pos} (hi : i < n) (hj : j < n) (h : wp M g (keyLt' (tuples' b) (.ref i) (.ref j)) Q E p (gSt n)) : Q (decide (i < j)) p (gSt n) := by
  rw [kat_lt_eq, Sem.wp_bind'] at h
  have h := items_of (g_get hi) rfl h
  rw [Sem.wp_bind'] at h
  have h := items_of (g_get hj) rfl h
  rw [Sem.wp_bind'] at h
  have h := loop_of (b := b) _ 0 (nones i j) h
  have e : decide ((List.replicate i Value.none).toArray.size < (List.replicate j Value.none).toArray.size) = decide (i < j) := by simp
  rw [← e]
  exact h
end HpS
end
section
set_option linter.all false
set_option maxRecDepth 100000
set_option maxHeartbeats 2000000
namespace HpS
open PySem PySem.W PyProof.Rows
open PySem.Sem (wp)
/-! ### the ghost's keys -/
@[reducible] def natOrd : KeyOrd where
  α := Nat
  blt a b := decide (a < b)
  irrefl a := decide_eq_false (Nat.lt_irrefl a)
  trans a b c h1 h2 := decide_eq_true (Nat.lt_trans (of_decide_eq_true h1) (of_decide_eq_true h2))
  negTrans a b c h := by
    have h := of_decide_eq_true h
    by_cases e : a < b
    · exact .inl (decide_eq_true e)
    · exact .inr (decide_eq_true (by omega))
  total a b h1 h2 := by
    have h1 := of_decide_eq_false h1
    have h2 := of_decide_eq_false h2
    omega
def gKey (n : Nat) : Value → Option Nat
  | .ref a => if a < n then some a else none
  | _ => none
@[reducible] def gKind (n : Nat) : PyProof.Rows.KeyKind where
  toKeyOrd := natOrd
  keyOf := gKey n
  dflt := 0
theorem gKey_some {n a : Nat} {v : Value} (h : gKey n v = some a) : v = .ref a ∧ a < n := by
  cases v with
  | ref c =>
    have h' : (if c < n then some c else none) = some a := h
    by_cases e : c < n
    · rw [if_pos e] at h'
      cases h'
      exact ⟨rfl, e⟩
    · rw [if_neg e] at h'
      cases h'
  | _ => cases h
theorem gKey_of {n a : Nat} (h : a < n) : gKey n (.ref a) = some a := if_pos h
theorem none_lex {prog : Program} {w : World} {A : Around} {b fin : Bool} {Q : Bool → Shared → Prop} {s : Shared} (hq : Q fin s) : ∀ (l : List (Value × Value)) (i : Nat), (∀ x ∈ l, x = (Value.none, Value.none)) → KatLex prog w A b fin Q l i s
  | [], _, _ => kat_nil hq
  | x :: l, i, h => by
    have e := h x (List.mem_cons_self ..)
    subst e
    refine kat_cons fun g p _ => ?_
    rw [wp_eqNone]
    exact kat_yes (none_lex hq l (i + 1) fun y hy => h y (List.mem_cons_of_mem _ hy))
theorem ghost_ltAt {prog : Program} {w : World} (n : Nat) (b : Bool) : G.LtAt prog w (gSt n) (gKind n) (tuples' b) := by
  intro A E x y a c Q hx hy hq
  obtain ⟨rfl, ha⟩ := gKey_some hx
  obtain ⟨rfl, hc⟩ := gKey_some hy
  refine kat_lt (g_get ha) rfl (g_get hc) rfl (none_lex ?_ _ 0 (nones a c))
  have e : decide ((List.replicate a Value.none).toArray.size < (List.replicate c Value.none).toArray.size) = decide (a < c) := by simp
  rw [e]
  exact hq
/-! ### the sorting, where the comparison is known at the one place -/
section
variable {prog : Program} {w : World} {A : Around} {E : Value → Shared → Prop} {s : Shared} {vs : List Value} {rk : Value → Nat} {n : Nat} {b : Bool}
def lbl (rk : Value → Nat) (x : Keyed) : Keyed := (.ref (rk x.1), x.2)
theorem zip_self (l : List Value) : ∀ x ∈ l.zip l, x.1 = x.2 ∧ x.1 ∈ l := by
  intro x hx
  obtain ⟨e, m⟩ := mem_zip_self hx
  exact ⟨e, m⟩
theorem lbl_snd (l : List Keyed) : (l.map (lbl rk)).map (·.2) = l.map (·.2) := by
  rw [List.map_map]
  rfl
theorem zip_snd : ∀ (l : List Value), (l.zip l).map (·.2) = l
  | [] => rfl
  | x :: l => by rw [List.zip_cons_cons, List.map_cons, zip_snd l]
theorem runs_by {Q : Unit → SortSt → Prop} (h2 : 2 ≤ vs.length) (hr : ∀ x ∈ vs, rk x < n)
    (real : ∀ x ∈ vs, ∀ y ∈ vs, ∀ (F : Value → Shared → Prop) (R : Bool → Shared → Prop), R (decide (rk x < rk y)) s → wpAny (model prog w) A (keyLt' (tuples' b) x y) R F s)
    (h : ∀ u, failedOf u = none → ((arrOf u).toList.map (·.2)).Perm vs → ((arrOf u).toList.map (·.2)).Pairwise (fun x y => rk x ≤ rk y) → Q () u) :
    wpS (model prog w) A E s sortRuns' Q (SortSt.mk' (tuples' b) (pairsOf vs) #[] 7 none) := by
  intro g p hg
  have K0 : KeysOf (gKind n) ((pairsOf vs).map (lbl rk)) := fun q hq => by
    rw [Array.toList_map, pairsOf_toList] at hq
    obtain ⟨x, hx, rfl⟩ := List.mem_map.mp hq
    exact ⟨rk x.1, gKey_of (hr _ (zip_self vs x hx).2)⟩
  have L := G.wpS_sortRunsSt (prog := prog) (w := w) (A := A) (E := fun _ _ => False) (s := gSt n) (κ := gKind n) (kd := tuples' b) (a₀ := (pairsOf vs).map (lbl rk)) (st := SortSt.mk' (tuples' b) ((pairsOf vs).map (lbl rk)) #[] 7 none)
    (Q := fun _ u => (arrOf u).Perm ((pairsOf vs).map (lbl rk)) ∧ SortedToK (gKind n) (arrOf u) ((pairsOf vs).map (lbl rk)).size) (ghost_ltAt n b) K0 ⟨Array.Perm.refl _, rfl, rfl⟩ rfl (Stable.refl _)
    (by rw [Array.size_map, pairsOf_size]; exact h2) (fun u a1 _ a3 _ => ⟨a1, a3⟩) g p hg
  have O : Ab.Ok ⟨model prog w, g, s, gSt n, fun e _ s' => E e s', fun _ _ _ => False, lbl rk, fun x => x.1 = x.2 ∧ x.1 ∈ vs, fun x y => decide (rk x.1 < rk y.1), tuples' b, tuples' b⟩ := by
    refine ⟨fun x y hx hy q R F hR => ?_, fun x y hx hy q R F hw => ⟨q, ghost_lt (hr _ hx.2) (hr _ hy.2) hw⟩⟩
    refine Sem.wp_mono _ _ _ (fun r q' s' z => ?_) (fun _ _ _ z => False.elim z) q s (real x.1 hx.2 y.1 hy.2 (fun _ _ => False) (fun r s' => r = decide (rk x.1 < rk y.1) ∧ s' = s) ⟨rfl, rfl⟩ g q hg)
    obtain ⟨rfl, rfl⟩ := z
    exact hR q'
  refine sim_runs O (SortSt.mk' (tuples' b) (pairsOf vs) #[] 7 none) (SortSt.mk' (tuples' b) ((pairsOf vs).map (lbl rk)) #[] 7 none) ⟨rfl, rfl, ⟨rfl, fun x hx => ?_⟩, rfl, rfl, rfl, rfl⟩ _ _ p p (fun a c u v p' q' e hS hP => ?_) L
  · have hx : x ∈ (pairsOf vs).toList := Array.mem_toList_iff.mpr hx
    rw [pairsOf_toList] at hx
    exact zip_self vs x hx
  · obtain ⟨_, hp, hs⟩ := hP
    obtain ⟨ev, hv⟩ := hS.arr
    have ev : arrOf v = (arrOf u).map (lbl rk) := ev
    have hp : (arrOf v).Perm ((pairsOf vs).map (lbl rk)) := hp
    have hs : SortedToK (gKind n) (arrOf v) ((pairsOf vs).map (lbl rk)).size := hs
    rw [ev] at hp hs
    refine ⟨rfl, h u hS.f1 ?_ ?_⟩
    · have q := (Array.perm_iff_toList_perm.mp hp).map (·.2)
      rw [Array.toList_map, Array.toList_map, lbl_snd, lbl_snd, pairsOf_toList, zip_snd] at q
      exact q
    · have hz := hp.size_eq
      rw [Array.size_map] at hz
      rw [List.pairwise_iff_getElem]
      intro i j hi hj hij
      have hj' : j < (arrOf u).size := by simpa using hj
      have hi' : i < (arrOf u).size := by omega
      have k := hs i j (Nat.le_of_lt hij) (by rw [← hz]; exact hj')
      have key : ∀ i (hi : i < (arrOf u).size), KK (gKind n) ((arrOf u).map (lbl rk)) i = rk (arrOf u)[i].2 := fun i hi => by
        have V := hv _ (Array.getElem_mem hi)
        have V1 : (arrOf u)[i].1 = (arrOf u)[i].2 := V.1
        have V2 : (arrOf u)[i].1 ∈ vs := V.2
        unfold KK
        rw [Array.getElem?_map, Array.getElem?_eq_getElem hi]
        show ((gKey n (.ref (rk (arrOf u)[i].1))).getD 0 : Nat) = _
        rw [gKey_of (hr _ V2), V1]
        rfl
      rw [key i hi', key j hj'] at k
      have k : decide (rk (arrOf u)[j].2 < rk (arrOf u)[i].2) = false := k
      have k := of_decide_eq_false k
      rw [List.getElem_map, List.getElem_map, Array.getElem_toList, Array.getElem_toList]
      omega
end
/-! ### list.sort and sorted -/
section
variable {prog : Program} {w : World} {A : Around} {E : Value → Shared → Prop} {s : Shared} {vs : List Value} {rk : Value → Nat} {n : Nat} {b : Bool}
/-- what is asked of the rows, whatever else the heap has got since h -/
structure Cmp (prog : Program) (w : World) (A : Around) (h : Heap) (vs : List Value) (rk : Value → Nat) (n : Nat) (b : Bool) : Prop where
  few : ∀ x ∈ vs, rk x < n
  kind : 2 ≤ vs.length → ∀ (t : Shared), G.KeepsTups h t.heap → ∀ (F : Value → Shared → Prop) (R : SortKind → Shared → Prop), R (tuples' b) t → wpAny (model prog w) A (keyKind' vs.toArray) R F t
  lt : ∀ (t : Shared), G.KeepsTups h t.heap → ∀ x ∈ vs, ∀ y ∈ vs, ∀ (F : Value → Shared → Prop) (R : Bool → Shared → Prop), R (decide (rk x < rk y)) t → wpAny (model prog w) A (keyLt' (tuples' b) x y) R F t
theorem Cmp.keep {h h' : Heap} (c : Cmp prog w A h vs rk n b) (k : G.KeepsTups h h') : Cmp prog w A h' vs rk n b := ⟨c.few, fun z t q => c.kind z t (k.trans q), fun t q => c.lt t (k.trans q)⟩
theorem short_pw {R : Value → Value → Prop} : ∀ {l : List Value}, l.length < 2 → l.Pairwise R
  | [], _ => List.Pairwise.nil
  | [x], _ => List.pairwise_singleton _ _
  | _ :: _ :: l, h => by
    rw [List.length_cons, List.length_cons] at h
    omega
theorem sort_by {a : Addr} {e0 : Nat} {P : Fin → Shared → Prop} (ho : s.heap.get? a = some (seqObj "list" vs.toArray e0)) (c : Cmp prog w A s.heap vs rk n b) (hL : vs.length ≤ sizeLine)
    (h : ∀ out : List Value, out.Perm vs → out.Pairwise (fun x y => rk x ≤ rk y) → P (.done (.ret .none)) { s with heap := sortedHeap s.heap a vs out.toArray }) : wpAny (model prog w) A (Builtin.«list.sort» ⟨[.ref a], []⟩) P E s := by
  have sl := sizeLine_eq
  have k6 := G.keeps_sort6 (vs := vs) ho
  rw [list_sort_plain]
  refine wpAny_bind (listItems_at ho rfl (wpAny_bind (listUpdate_at ho rfl ?_)))
  have hlt := Heap.lt_size ho
  obtain ⟨e1, g1⟩ : ∃ e1, (s.heap.update a (Obj.mapSeq fun _ => #[])).get? a = some (seqObj "list" #[] e1) := ⟨_, get?_update_seq ho _⟩
  refine wpAny_bind (seqEpoch_at g1 rfl (wpAny_bind (wpAny_newTuple (wpAny_bind (wpAny_newList (wpAny_holding ?_))))))
  have g6 : (G.sortHeap6 s.heap a vs).get? a = some (seqObj "list" #[] e1) := by
    unfold G.sortHeap6
    rw [Heap.get?_push_ne _ _ _ (by rw [size_push', Heap.size_update]; exact Nat.ne_of_lt (Nat.lt_succ_of_lt hlt)), Heap.get?_push_ne _ _ _ (by rw [Heap.size_update]; exact Nat.ne_of_lt hlt), g1]
  show wpAny (model prog w) A _ P E { s with heap := G.sortHeap6 s.heap a vs }
  have zl : vs.toArray.size = vs.length := List.size_toArray
  have fin : ∀ u : SortSt, failedOf u = none → ((arrOf u).toList.map (·.2)).Perm vs → ((arrOf u).toList.map (·.2)).Pairwise (fun x y => rk x ≤ rk y) → wpAny (model prog w) A (do
      let touched := (← seqEpoch a) != e1
      Builtin.List.listUpdate (.ref a) fun _ => (arrOf u).map (·.2)
      if let some e := failedOf u then rule "list.sort.comparison-raised"; throw e
      if touched then rule "list.sort.modified"; raiseError "ValueError" "list modified during sort"
      ret .none) P E { s with heap := G.sortHeap6 s.heap a vs } := fun u uf up uw => by
    have eo : (arrOf u).map (·.2) = ((arrOf u).toList.map (·.2)).toArray := by
      rw [← Array.toList_map]
    have lo : ((arrOf u).map (·.2)).size ≤ sizeLine + 1 := by
      rw [eo, List.size_toArray, up.length_eq]
      omega
    refine wpAny_bind (seqEpoch_at (s := { s with heap := G.sortHeap6 s.heap a vs }) g6 rfl (wpAny_bind (listUpdate_at (s := { s with heap := G.sortHeap6 s.heap a vs }) g6 rfl ?_ (hsz2 := lo))))
    rw [uf]
    simp only [bne_self_eq_false, Bool.false_eq_true, if_false]
    have q := h _ up uw
    rw [← eo] at q
    exact wpAny_pure q
  dsimp only
  by_cases z : vs.toArray.size < 2
  · rw [if_pos z, if_pos z]
    refine wpAny_bind (wpAny_pure ?_)
    rw [StateT.run_pure]
    refine wpAny_bind (wpAny_pure ?_)
    have el : (arrOf (SortSt.mk' general' (vs.toArray.zip vs.toArray) #[] 7 none)).toList.map (·.2) = vs := by
      show (pairsOf vs).toList.map (·.2) = vs
      rw [pairsOf_toList, zip_snd]
    refine fin (SortSt.mk' general' (vs.toArray.zip vs.toArray) #[] 7 none) rfl (by rw [el]) ?_
    rw [el]
    exact short_pw (by omega)
  · rw [if_neg z, if_neg z]
    have two : 2 ≤ vs.length := by omega
    refine wpAny_bind (c.kind two { s with heap := G.sortHeap6 s.heap a vs } k6 _ _ ?_)
    refine wpAny_bind (wpAny_mono (runs_by (E := E) (s := { s with heap := G.sortHeap6 s.heap a vs }) (vs := vs) (rk := rk) (n := n) (b := b) (Q := fun _ u => failedOf u = none ∧ ((arrOf u).toList.map (·.2)).Perm vs ∧ ((arrOf u).toList.map (·.2)).Pairwise (fun x y => rk x ≤ rk y)) two c.few
      (fun x hx y hy => c.lt { s with heap := G.sortHeap6 s.heap a vs } k6 x hx y hy) fun u a1 a2 a3 => ⟨a1, a2, a3⟩) ?_ fun _ _ z => z)
    rintro ⟨x, u⟩ s' ⟨rfl, a1, a2, a3⟩
    exact fin u a1 a2 a3
theorem sorted_by {l : Addr} {Q : Value → Shared → Prop} (hl : s.heap.IsList l vs.toArray) (c : Cmp prog w A.in1.in1 s.heap vs rk n b) (hL : vs.length ≤ sizeLine)
    (h : ∀ out : List Value, out.Perm vs → out.Pairwise (fun x y => rk x ≤ rk y) → Q (.ref (s.heap.objs.size + 1)) { s with heap := sortedAll s.heap vs out.toArray }) : wpAny (model prog w) A (call (.builtin "sorted") [.ref l]) Q E s := by
  refine Calls.call_function_entry kind_sorted plain_sorted entry_sorted (args_sorted1 _) ?_
  unfold Builtin.«sorted»
  refine wpAny_bind (m := checkCount "sorted" 1 1 _) (wpAny_pure (wpAny_bind (collect_list hl (wpAny_bind (wpAny_newList ?_)))))
  generalize eh : (s.heap.push (seqObj "list" #[] 0)).update s.heap.objs.size (Obj.mapSeq (· ++ vs.toArray)) = h1
  have z1 : h1.objs.size = s.heap.objs.size + 1 := by rw [← eh, Heap.size_update, size_push']
  have k1 : G.KeepsTups s.heap h1 := by
    rw [← eh]
    exact (G.KeepsTups.push _ _).trans (G.KeepsTups.update _ (Heap.get?_push_size _ rfl) G.not_tuple_list)
  have g2 : (h1.push (seqObj "list" vs.toArray 0)).get? (s.heap.objs.size + 1) = some (seqObj "list" vs.toArray 0) := by
    rw [← z1]
    exact Heap.get?_push_size _ rfl
  show wpAny _ _ _ _ _ { s with heap := h1.push (seqObj "list" vs.toArray 0) }
  rw [z1]
  refine wpAny_bind (wpAny_holding (wpAny_call_entry slot_list_sort ⟨_, g2, rfl⟩ entry_list_sort (sort_by (s := { s with heap := h1.push (seqObj "list" vs.toArray 0) }) g2 (c.keep (k1.trans (G.KeepsTups.push _ _))) hL fun out o1 o2 => ⟨_, rfl, wpAny_pure ⟨_, rfl, ?_⟩⟩) (args_list_sort _)))
  have q := h out o1 o2
  unfold sortedAll at q
  rw [eh] at q
  exact q
end
end HpS
end
section
set_option Elab.async false
set_option linter.all false
set_option maxRecDepth 100000
set_option maxHeartbeats 2000000
namespace HpR
open PySem PySem.Spec PyProof.Rows L2

/-! ### len of a dict keyed by tuples -/
section
variable {prog : Program} {w : World} {K : Type} [DecidableEq K] {knd : HeapKind prog w K} {A : Around} {E : Value → Shared → Prop} {s : Shared} {d : Addr}
theorem meetsH_len (knd : HeapKind prog w K) (d : Addr) (hd : (d == sysModules) = false) :
    MeetsIn prog w (Builtin.«dict.__len__» ⟨[.ref d], []⟩) (fun _ R s => ∃ xs, s.heap.DictOfH knd d xs ∧ R (.ok (.ret (.int xs.length s.toks))) { s with toks := s.toks + 1 }) :=
  .of_wp fun A R s ⟨xs, hm, h⟩ => by
    obtain ⟨o, es, ep, ho, hc, hdat, hk, hp, hn⟩ := hm
    show wpAny _ _ (dictSize d >>= _) _ _ s
    unfold dictSize
    refine wpAny_bind (wpAny_bind (wpAny_dictEntries ho hdat (wpAny_pure ?_)))
    show wpAny _ _ (Builtin.Dict.pendingCount d >>= _) _ _ s
    refine wpAny_bind (wpAny_pendingCount_other hd ?_)
    refine wpAny_ret_mkInt ?_
    have e : es.size = xs.length := size_of_entries hk
    rw [Nat.add_zero, e]
    exact h
theorem len_bodyH {xs : List (K × Addr × Value)} {Q : Value → Shared → Prop} (hd : (d == sysModules) = false) (hm : s.heap.DictOfH knd d xs) (hfit : (xs.length : Int) < 2 ^ 63)
    (h : Q (.int xs.length (s.toks + 1)) { s with toks := s.toks + 1 + 1 }) : wpAny (model prog w) A (Builtin.«len» ⟨[.ref d], []⟩) (fun fin s' => ∃ r, fin = .done (.ret r) ∧ Q r s') E s := by
  unfold Builtin.«len»
  refine wpAny_bind (m := oneArg "len" _) (wpAny_pure ?_)
  refine wpAny_bind (m := callSpecial? (.ref d) (Str.ofString "__len__")) (wpAny_callSpecial?_slot (name := Str.ofString "__len__") hm.typeIs F.slot_dict_len
    (call_meetsIn F.slot_dict_len hm.typeIs F.entry_dict_len (F.args_dict_len_1 _) (meetsH_len knd d hd) ⟨xs, hm, ?_⟩))
  show wpAny _ _ _ _ _ { s with toks := s.toks + 1 }
  refine wpAny_bind (wpAny_holding (wpAny_pure ?_))
  refine wpAny_bind (wpAny_letGo ?_)
  show wpAny _ _ (if ((xs.length : Nat) : Int) < 0 then _ else _) _ _ _
  rw [if_neg (by omega)]
  show wpAny _ _ (if ((xs.length : Nat) : Int) ≥ 2 ^ 63 then _ else _) _ _ _
  rw [if_neg (by omega)]
  exact wpAny_bind (wpAny_mkInt (wpAny_pure ⟨_, rfl, h⟩))
theorem call_lenH {xs : List (K × Addr × Value)} {Q : Value → Shared → Prop} (hd : (d == sysModules) = false) (hm : s.heap.DictOfH knd d xs) (hfit : (xs.length : Int) < 2 ^ 63)
    (h : Q (.int xs.length (s.toks + 1)) { s with toks := s.toks + 1 + 1 }) : wpAny (model prog w) A (call (.builtin "len") [.ref d]) Q E s :=
  Calls.call_function_entry kind_len plain_len entry_len (args_len1 _) (len_bodyH hd hm hfit h)
end
section
variable {X : Cx}
theorem call_lenT : CallR X (.builtin "len") (fun xs H Q => ∃ a kvs, xs = [V.ref a] ∧ H a = some (.dT kvs) ∧ Q (.int kvs.length) H) := by
  intro pins s σ H xs us Q I r h
  obtain ⟨a, kvs, rfl, ha, q⟩ := h
  obtain ⟨u, rfl, ru⟩ := vals1 r
  cases ru
  obtain ⟨z, hd, xs, rel, dd⟩ := dt_rd I.hok (.inl ha)
  have hl : kvs.length = xs.length := Paired.length rel
  have hn := line63
  refine call_lenH hd dd (by omega) ?_
  rw [← hl]
  exact ⟨.int kvs.length, H, I.tok _, ⟨_, rfl⟩, q⟩
end

/-! ### d.pop(t), t a tuple that is a key there -/
section
variable {prog : Program} {w : World} {K : Type} [DecidableEq K] {knd : HeapKind prog w K} {A : Around} {E : Value → Shared → Prop} {s : Shared} {d a : Addr}
theorem erase_map {K : Type} [DecidableEq K] : ∀ {xs : List (K × Addr × Value)} {j : Nat} {k : K} {p : Addr × Value}, (xs.map (·.1)).Nodup → xs[j]? = some (k, p) → xs.eraseIdx j = xs.filter fun x => decide (x.1 ≠ k)
  | [], j, k, p, _, h => by simp at h
  | x :: xs, 0, k, p, hn, h => by
    have e : x = (k, p) := Option.some.inj h
    subst e
    rw [List.map_cons, List.nodup_cons] at hn
    rw [List.eraseIdx_cons_zero, List.filter_cons, if_neg (by simp)]
    refine (List.filter_eq_self.mpr fun y hy => ?_).symm
    refine decide_eq_true fun e => hn.1 ?_
    show k ∈ _
    rw [← e]
    exact List.mem_map_of_mem hy
  | x :: xs, j + 1, k, p, hn, h => by
    rw [List.map_cons, List.nodup_cons] at hn
    have h' : xs[j]? = some (k, p) := by simpa using h
    have ne : x.1 ≠ k := fun e => hn.1 (by rw [e]; exact List.mem_map.mpr ⟨(k, p), List.mem_of_getElem? h', rfl⟩)
    rw [List.eraseIdx_cons_succ, List.filter_cons, if_pos (decide_eq_true ne), erase_map hn.2 h']
theorem erase_mapI {α β : Type} (f : α → β) : ∀ (l : List α) (j : Nat), (l.map f).eraseIdx j = (l.eraseIdx j).map f
  | [], _ => rfl
  | _ :: _, 0 => rfl
  | x :: l, j + 1 => by
    show f x :: (l.map f).eraseIdx j = f x :: (l.eraseIdx j).map f
    rw [erase_mapI f l j]
theorem takeOutH {xs : List (K × Addr × Value)} {k : K} {Q : Option DictEntry → Shared → Prop} {p : Addr × Value} (hu : knd.room A) (hkey : knd.is s.heap k a) (hm : s.heap.DictOfH knd d xs) (hp : atKey xs k = some p)
    (h : ∀ e h', e.val = p.2 → h'.DictOfH knd d (xs.filter fun x => decide (x.1 ≠ k)) → Heap.SameBut d s.heap h' → Q (some e) { s with heap := h', toks := s.toks + knd.draws k })
    (hsz : xs.length ≤ sizeLine) : wpAny (model prog w) A (Builtin.Dict.takeOut d (.ref a)) Q E s := by
  obtain ⟨o, es, ep, ho, hc, hd, he, his, hn⟩ := hm
  have hes : es.size ≤ sizeLine := by rw [size_of_entries he]; exact hsz
  unfold Builtin.Dict.takeOut
  try with_reducible refine wpAny_holding ?_
  refine wpAny_bind (knd.pyHash hu hkey (wpAny_bind (wpAny_dictFind_heap (s := { s with toks := s.toks + knd.draws k }) hu hkey ho hd he his hn ?_ ?_)))
  · intro hno
    rw [atKey_none_of_get hno] at hp
    cases hp
  · intro j q hj
    rw [atKey_of_get hn hj] at hp
    have eq : q = p := Option.some.inj hp
    subst eq
    refine wpAny_bind (wpAny_dictEntries (s := { s with toks := s.toks + knd.draws k }) ho hd ?_)
    rw [entry_at he j, hj]
    refine wpAny_bind (wpAny_updateDictKeys (hz := hes) (s := { s with toks := s.toks + knd.draws k }) ho hd (wpAny_pure (h _ _ rfl ⟨_, _, ep + 1, Heap.get?_update_self _ ho (Obj.isFreed_of_dict (Obj.data_mapDictKeys hd _)),
      hc.mapDictKeys _, Obj.data_mapDictKeys hd _, ?_, ?_, ?_⟩ (Heap.SameBut.update ..))))
    · have e2 : (xs.eraseIdx j).map (entryOfKey knd) = es.toList.eraseIdx j := by rw [he]; exact (erase_mapI (entryOfKey knd) xs j).symm
      rw [← erase_map hn hj, e2]
      obtain ⟨l⟩ := es
      simp
    · intro x hx
      exact knd.keeps (his x (List.mem_filter.mp hx).1) ho hd (Heap.SameBut.update ..)
    · exact hn.sublist ((List.filter_sublist).map _)
theorem meetsH_pop (knd : HeapKind prog w K) (d a : Addr) :
    MeetsIn prog w (Builtin.«dict.pop» ⟨[.ref d, .ref a], []⟩) (fun A R s => knd.room A.in1 ∧ ∃ k xs p, knd.is s.heap k a ∧ s.heap.DictOfH knd d xs ∧ xs.length ≤ sizeLine ∧ atKey xs k = some p ∧
      ∀ h', h'.DictOfH knd d (xs.filter fun x => decide (x.1 ≠ k)) → Heap.SameBut d s.heap h' → R (.ok (.ret p.2)) { s with heap := h', toks := s.toks + knd.draws k }) :=
  .of_wp fun A R s ⟨hu, k, xs, p, hkey, hm, hsz, hp, h⟩ => by
    unfold Builtin.«dict.pop»
    refine wpAny_bind ?_
    unfold Builtin.Dict.keyAndDefault
    refine wpAny_bind (wpAny_notOrdered_dict hm.typeIs ?_)
    show wpAny _ _ (pure (d, Value.ref a, none)) _ _ s
    refine wpAny_pure ?_
    obtain ⟨o, es, ep, ho, hc, hdat, he, his, hn⟩ := id hm
    have hpart : (keyPart (Value.ref a)).isSome = false := rfl
    simp only [hpart, Bool.false_eq_true, if_false]
    have hne : es.isEmpty = false := by
      rw [Array.isEmpty_eq_false_iff]
      intro z
      subst z
      have e : xs = [] := List.map_eq_nil_iff.mp (by rw [← he])
      rw [e] at hp
      cases hp
    refine wpAny_bind (wpAny_dictEntries ho hdat (wpAny_bind (wpAny_pure ?_)))
    simp only [hne, Bool.false_eq_true, if_false]
    refine wpAny_bind (takeOutH hu hkey hm hp (fun e h' ev hm' hs' => ?_) hsz)
    simp only [Option.isNone_some, Bool.false_eq_true, if_false]
    exact wpAny_bind (wpAny_letGo (wpAny_pure ⟨e.val, rfl, by rw [ev]; exact h h' hm' hs'⟩))
end
section
theorem kt_drop {H : Hp} {kvs : List (List L2.Key × V)} {xs : List (List L2.Key × Addr × Value)} (k : List L2.Key) (r : KT H kvs xs) : KT H (dropK kvs k) (xs.filter fun x => decide (x.1 ≠ k)) := by
  unfold KT at r ⊢
  induction r with
  | nil => exact .nil
  | @cons p q ps qs h t ih =>
    by_cases e : p.1 = k
    · rw [dropK_pos e, List.filter_cons, if_neg (by rw [← h.1, e]; simp)]
      exact ih
    · rw [dropK_neg e, List.filter_cons, if_pos (decide_eq_true (by rw [← h.1]; exact e))]
      exact .cons h ih
variable {X : Cx} {pins : List (Addr × Obj)} {σ : L2.St} {H : Hp} {s : Shared} {a b : Addr} {kvs : List (List L2.Key × V)} {k : List L2.Key} {A : Around} {E : Value → Shared → Prop}
theorem d_popT {v : V} {Q : Value → Shared → Prop} (hu : A.units + 1 < cLine) (I : Inv X pins σ H s) (e : H a = some (.dT kvs)) (eb : H b = some (.tup (k.map kV))) (l : valV kvs k = some v)
    (h : ∀ w' s', Inv X pins σ (upd H a (.dT (dropK kvs k))) s' → RelV v w' → Q w' s') : wpAny (model X.prog X.w) A (call (.builtin "dict.pop") [.ref a, .ref b]) Q E s := by
  obtain ⟨z, hd, xs, rel, dd⟩ := dt_of I.hok e
  obtain ⟨w', hw, rw'⟩ := RelO.some_of (v := v) (o := (atKey xs k).map (·.2)) (by rw [← l]; exact rel.val k)
  obtain ⟨p, hp, hp2⟩ := Option.map_eq_some_iff.mp hw
  have hl : kvs.length = xs.length := Paired.length rel
  refine call_meetsIn PySem.F.slot_dict_pop dd.typeIs PySem.F.entry_dict_pop (PySem.F.args_dict_pop_2 _ _) (meetsH_pop (tupleKind (mixKind X.prog X.w)) a b) ⟨tupleKind_room_in1 hu, k, xs, p, key_of I.hok eb, dd, by omega, hp, fun h' dd' hs => ?_⟩
  rw [hp2]
  refine h w' _ ?_ rw'
  obtain ⟨q, es, ep, hq, h2, h3, h4, _, h5⟩ := dd'
  refine d_write I (by rw [e]; exact True.intro) hs ⟨q, hq⟩ ⟨Nat.le_trans (dropK_le kvs k) z, hd, _, (kt_drop k rel).keeps fun c ys ec => ?_, q, es, ep, hq, h2, h3, h4, h5⟩
  rw [upd_ne (ne_of ec e (fun z => nomatch z))]
  exact ec
end
section
variable {X : Cx} {o e : Expr} {apos cpos : Pos} {td ty : TE}
def tDPopT (td ty : TE) : TE := fun σ H Q => td σ H fun x H1 => ∃ a, x = .ref a ∧ IsD H1 a ∧ ty σ H1 fun y H2 => ∃ kvs k b v, H2 a = some (.dT kvs) ∧ y = .ref b ∧ H2 b = some (.tup (k.map kV)) ∧ valV kvs k = some v ∧ Q v (upd H2 a (.dT (dropK kvs k)))
theorem pe_dpopT (hu : X.A.units + 1 < cLine) (ho : PE X o td) (he : PE X e ty) (m : M1 X o "pop" apos e cpos) : PE X (.Call (.Attribute o "pop" apos) [e] [] cpos) (tDPopT td ty) := by
  intro pins s σ H Q I h
  refine wpAny_Call_method m.base m.few m.line PySem.F.plainAttrs_dict PySem.F.slot_dict_pop PySem.F.type_dict_pop (thn (ho pins s σ H _ I h) fun u s1 ⟨x, H1, I1, rx, a, ex, d, q1⟩ => ?_)
  subst ex
  obtain rfl : u = Value.ref a := rx
  obtain ⟨t1, t2, _⟩ := isD_at I1 d
  refine ⟨t1, t2, ?_⟩
  rw [m.trees]
  refine Calls.callWith_builtin rfl (Calls.evalArgs_plain (Calls.spliced_cons (thn (he pins s1 σ H1 _ I1 q1) fun iv s2 ⟨y, H2, I2, ry, kvs, k, b, v, ea, ey, eb, l, q2⟩ => Calls.spliced_nil ?_)))
  subst ey
  cases (show iv = Value.ref b from ry)
  exact d_popT hu I2 ea eb l fun w' s3 I3 rw' => ⟨v, _, I3, rw', q2⟩
end
end HpR
end
section
set_option Elab.async false
set_option linter.all false
set_option maxRecDepth 100000
set_option maxHeartbeats 2000000
namespace HpR
open PySem PySem.Spec PyProof.Rows L2
/-! ### reversed(t), t a tuple -/
theorem owner_rvt : Manifest.owners.lookup (String.ofList ['d', 'e', 's', 'r', 'e', 'v', 'e', 'r'].reverse) = some Manifest.sig_reversed := by kernel_rfl
theorem slot_rvt_next : Slot "reversed" "__next__" "reversed.__next__" :=
  .of (owner := "reversed") (n := "__next__") (by rw [typeLookup_type, builtinLookup_eq_fast]; kernel_rfl) (by decide +kernel) (by decide +kernel) (by decide +kernel)
    (by first | exact .inl (by decide +kernel) | exact .inr (by decide +kernel)) (by rw [isSubtype_type]; kernel_rfl)
theorem entry_rvt_next : entryFor table "reversed.__next__" = some Builtin.«reversed.__next__» := entryFor_of_tree (by kernel_rfl)
theorem args_rvt_next_1 (a : Value) : argsOk "reversed.__next__" ⟨[a], []⟩ := by
  unfold argsOk; rw [signature?_of (id := "reversed.__next__") (n := ['_', '_', 't', 'x', 'e', 'n', '_', '_']) (o := ['d', 'e', 's', 'r', 'e', 'v', 'e', 'r']) (by kernel_rfl) owner_rvt]; kernel_rfl
theorem slot_rvt_iter : Slot "reversed" "__iter__" "reversed.__iter__" :=
  .of (owner := "reversed") (n := "__iter__") (by rw [typeLookup_type, builtinLookup_eq_fast]; kernel_rfl) (by decide +kernel) (by decide +kernel) (by decide +kernel)
    (by first | exact .inl (by decide +kernel) | exact .inr (by decide +kernel)) (by rw [isSubtype_type]; kernel_rfl)
theorem args_rvt_iter_1 (a : Value) : argsOk "reversed.__iter__" ⟨[a], []⟩ := by
  unfold argsOk; rw [signature?_of (id := "reversed.__iter__") (n := ['_', '_', 'r', 'e', 't', 'i', '_', '_']) (o := ['d', 'e', 's', 'r', 'e', 'v', 'e', 'r']) (by kernel_rfl) owner_rvt]; kernel_rfl
theorem entry_rvt_iter : entryFor table "reversed.__iter__" = some Builtin.«dict_keyiterator.__iter__» :=
  entryFor_alias (id' := "dict_keyiterator.__iter__") (by kernel_rfl) (by first | rfl | decide +kernel | (unfold String.splitOn; simp +decide [String.splitOnAux])) (by decide +kernel) (by kernel_rfl)
theorem slot_rvt_init : Slot "reversed" "__init__" "object.__init__" :=
  .of (owner := "object") (n := "__init__") (by rw [typeLookup_type, builtinLookup_eq_fast]; kernel_rfl) (by decide +kernel) (by decide +kernel) (by decide +kernel)
    (by first | exact .inl (by decide +kernel) | exact .inr (by decide +kernel)) (by rw [isSubtype_type]; kernel_rfl)
theorem called_rvt : TypeCalled "reversed" "reversed.__new__" "object.__init__" :=
  ⟨by decide +kernel, by decide +kernel, ⟨_, _, F.mro_reversed⟩, F.made_reversed, by decide +kernel, F.sub_reversed_self, slot_rvt_init⟩
theorem no_rev_tuple : typeLookup (.type "tuple") "__reversed__" = pure none := by rw [typeLookup_type, builtinLookup_eq_fast]; kernel_rfl
theorem sub_tuple_dict0 : isSubtype (.type "tuple") (.type "dict") = pure false := by rw [isSubtype_type]; kernel_rfl
section
variable {prog : Program} {w : World} {A : Around} {E : Value → Shared → Prop} {s : Shared}
def rvtObj (l : Addr) (i : Int) : Obj := { cls := .type "reversed", data := .fields #[.ref l, rawInt i] }
def IsRvt (h : Heap) (a l : Addr) (i : Int) : Prop := ∃ o, h.get? a = some o ∧ o.cls = .type "reversed" ∧ o.data = .fields #[.ref l, rawInt i]
theorem IsRvt.typeIs {a l : Addr} {i : Int} (x : IsRvt s.heap a l i) : s.TypeIs (.ref a) "reversed" := let ⟨o, ho, hc, _⟩ := x; ⟨o, ho, hc⟩
theorem IsRvt.at {h h' : Heap} {a l : Addr} {i : Int} (x : IsRvt h a l i) (e : ∀ o, h.get? a = some o → h'.get? a = some o) : IsRvt h' a l i := let ⟨o, ho, r⟩ := x; ⟨o, e _ ho, r⟩
theorem code_rvt_new {l : Addr} {items : Array Value} {Q₁ : Value → Shared → Prop} (hl : IsTup s.heap l items) (hfit : (items.size : Int) < 2 ^ 63)
    (h : Q₁ (.ref s.heap.objs.size) { s with heap := s.heap.push (rvtObj l ((items.size : Int) - 1)), toks := s.toks + 1 + 1 }) :
    codeAny (model prog w) A (.call (.builtin "reversed.__new__") ⟨[.type "reversed", .ref l], []⟩) (wants Q₁ E) s := by
  refine codeAny_of_tree ?_
  show wpAny _ A.in1 (do checkBuiltinCall "reversed.__new__" ⟨[.type "reversed", .ref l], []⟩; again (.builtin "reversed.__new__" ⟨[.type "reversed", .ref l], []⟩)) _ _ s
  refine wpAny_bind (wpAny_of_eq (F.newCall_reversed_1 _) (wpAny_pure ⟨plainId_quiet F.plain_reversed_new _, codeAny_builtin F.entry_reversed_new ?_⟩))
  rw [Around.under_plainId F.plain_reversed_new _]
  unfold Builtin.«reversed.__new__»
  refine wpAny_bind (wpAny_of_eq (newClass_reversed _) ?_)
  try dsimp only
  refine wpAny_bind (wpAny_of_eq (a := ()) (by first | rfl | kernel_rfl) ?_)
  refine wpAny_bind (wpAny_of_eq (a := ()) (by first | rfl | kernel_rfl) ?_)
  try dsimp only
  refine wpAny_bind (wpAny_specialOf hl.typeIs no_rev_tuple ?_)
  try dsimp only
  refine wpAny_bind ?_
  show wpAny _ _ (isInstance (.ref l) (.type "dict") >>= _) _ _ s
  refine wpAny_bind (wpAny_isInstance hl.typeIs sub_tuple_dict0 ?_)
  simp only [Bool.false_eq_true, if_false]
  refine wpAny_bind (wpAny_specialOf hl.typeIs PyProof.Rows.slot_tuple_getitem.lookup ?_)
  show wpAny _ _ (if (["tuple.__getitem__", "str.__getitem__", "bytes.__getitem__", "bytearray.__getitem__", "memoryview.__getitem__", "numpy.ndarray.__getitem__", "sqlite3.Row.__getitem__"].contains "tuple.__getitem__") = true then pure true else _) _ _ s
  rw [if_pos (by decide +kernel)]
  refine wpAny_pure ?_
  simp only [Bool.not_true, Bool.false_eq_true, if_false]
  refine wpAny_bind (len_tuple hl hfit ?_)
  refine wpAny_bind (wpAny_of_eq (a := some (items.size : Int)) rfl ?_)
  show wpAny _ _ (newObj (Value.type "reversed") (.fields #[Value.ref l, rawInt ((items.size : Int) - 1)]) >>= _) _ _ _
  exact wpAny_bind (wpAny_newObj_type (wpAny_pure h))
theorem call_rvt {l : Addr} {items : Array Value} {Q : Value → Shared → Prop} (hl : IsTup s.heap l items) (hfit : (items.size : Int) < 2 ^ 63)
    (h : Q (.ref s.heap.objs.size) { s with heap := s.heap.push (rvtObj l ((items.size : Int) - 1)), toks := s.toks + 1 + 1 }) : wpAny (model prog w) A (call (.type "reversed") [.ref l]) Q E s := by
  refine callType_codes called_rvt (Q₁ := fun obj s₁ => obj = .ref s.heap.objs.size ∧ s₁ = { s with heap := s.heap.push (rvtObj l ((items.size : Int) - 1)), toks := s.toks + 1 + 1 }) (F.typeCall_reversed_1 _) F.entry_object_init
    (code_rvt_new hl hfit ⟨rfl, rfl⟩) ?_
  rintro obj s₁ ⟨rfl, rfl⟩
  exact ⟨⟨_, Heap.get?_push_size _ rfl, rfl⟩, F.args_object_init_2 _ _, object_init_meets called_rvt.init.lookup called_rvt.made (by decide) prog w A.in1 _ _ ⟨⟨_, Heap.get?_push_size _ rfl, rfl⟩, rfl, h⟩⟩
theorem next_rvt {it l : Addr} {i : Nat} {items : Array Value} {x : Value} {Q : Option Value → Shared → Prop} (hit : IsRvt s.heap it l (i : Int)) (hl : IsTup s.heap l items) (hx : items[i]? = some x) (hfit : (items.size : Int) < 2 ^ 63)
    (hQ : ∀ h', IsRvt h' it l ((i : Int) - 1) → Heap.SameBut it s.heap h' → Q (some x) { s with heap := h', toks := s.toks + 1 }) : wpAny (model prog w) A (pyNext (.ref it)) Q E s := by
  obtain ⟨o, ho, hc, hd⟩ := id hit
  have hi : i < items.size := (Array.getElem?_eq_some_iff.mp hx).1
  unfold pyNext
  refine wpAny_bind (wpAny_attempt (wpAny_callSpecial?_slot (name := Str.ofString "__next__") hit.typeIs slot_rvt_next
    (wpAny_call_entry slot_rvt_next hit.typeIs entry_rvt_next ?_ (args_rvt_next_1 _))))
  unfold Builtin.«reversed.__next__»
  refine wpAny_bind (wpAny_of_eq (a := (Value.ref it, [])) rfl ?_)
  try dsimp only
  refine wpAny_bind (wpAny_field ho hd (x := .ref l) rfl ?_)
  refine wpAny_bind (wpAny_field ho hd (x := rawInt (i : Int)) rfl ?_)
  show wpAny _ _ (if (i : Int) < 0 then _ else _) _ _ s
  rw [if_neg (by omega)]
  refine wpAny_bind (wpAny_specialOf hl.typeIs PyProof.Rows.slot_tuple_getitem.lookup ?_)
  simp only [Option.isNone_some, Bool.false_eq_true, if_false]
  refine wpAny_bind (wpAny_mkInt ?_)
  have hl' : IsTup ({ s with toks := s.toks + 1 } : Shared).heap l items := hl
  refine wpAny_bind (wpAny_attempt (getItem_tuple hl' (k := (i : Int)) (j := i) (x := x) (by omega) (by omega) (seqIndex_of (by omega) (by omega)) hx ?_))
  refine wpAny_bind (wpAny_field (s := { s with toks := s.toks + 1 }) ho hd (x := rawInt (i : Int)) rfl ?_)
  show wpAny _ _ (setField (Value.ref it) 1 (rawInt ((i : Int) - 1)) >>= _) _ _ _
  refine wpAny_bind (wpAny_setField (s := { s with toks := s.toks + 1 }) ho hd (by simp) ?_)
  refine wpAny_pure ⟨x, rfl, wpAny_pure (hQ _ ?_ (Heap.SameBut.update ..))⟩
  exact ⟨_, Heap.get?_update_self _ ho (Obj.isFreed_of_fields (Obj.data_mapFields hd _)), (Obj.cls_mapFields ..).trans hc, by
    rw [Obj.data_mapFields hd]; simp⟩
theorem next_rvt_end {it l : Addr} {Q : Option Value → Shared → Prop} (hh : A.handled = none) (hit : IsRvt s.heap it l (-1))
    (hQ : ∀ h', Heap.ExtBut it s.heap h' → Q none { s with heap := h' }) : wpAny (model prog w) A (pyNext (.ref it)) Q E s := by
  obtain ⟨o, ho, hc, hd⟩ := id hit
  unfold pyNext
  refine wpAny_bind (wpAny_attempt (wpAny_callSpecial?_slot (name := Str.ofString "__next__") hit.typeIs slot_rvt_next
    (wpAny_call_entry slot_rvt_next hit.typeIs entry_rvt_next ?_ (args_rvt_next_1 _))))
  unfold Builtin.«reversed.__next__»
  refine wpAny_bind (wpAny_of_eq (a := (Value.ref it, [])) rfl ?_)
  try dsimp only
  refine wpAny_bind (wpAny_field ho hd (x := .ref l) rfl ?_)
  refine wpAny_bind (wpAny_field ho hd (x := rawInt (-1)) rfl ?_)
  show wpAny _ _ (if (-1 : Int) < 0 then _ else _) _ _ s
  rw [if_pos (by decide)]
  refine wpAny_bind (wpAny_rule ?_)
  refine wpAny_bind ?_
  show wpAny _ _ (setField (Value.ref it) 1 (rawInt (-1)) >>= _) _ _ s
  refine wpAny_bind (wpAny_setField ho hd (by simp) ?_)
  have ho1 := Heap.get?_update_self (h := s.heap) (f := Obj.mapFields (·.setIfInBounds 1 (rawInt (-1)))) ho (Obj.isFreed_of_fields (Obj.data_mapFields hd _))
  have hd1 := Obj.data_mapFields hd (·.setIfInBounds 1 (rawInt (-1)))
  refine wpAny_setField (s := { s with heap := s.heap.update it (Obj.mapFields fun x => x.setIfInBounds 1 (rawInt (-1))) }) ho1 hd1 (by simp) ?_
  have xb : Heap.ExtBut it s.heap ((s.heap.update it (Obj.mapFields fun x => x.setIfInBounds 1 (rawInt (-1)))).update it (Obj.mapFields fun x => x.setIfInBounds 0 Value.none)) := fun b o' hb e =>
    ((Heap.SameBut.update ..).2 b hb).trans (((Heap.SameBut.update ..).2 b hb).trans e)
  refine wpAny_bind ?_
  show wpAny _ _ (newExc (.type "StopIteration") [] >>= _) _ _ _
  refine wpAny_bind ?_
  simp only [newExc, newTuple]
  refine wpAny_bind (wpAny_newObj_type ?_ (by size_fits))
  refine wpAny_bind (m := firstArgMember _ _) (wpAny_of_eq (a := Value.none) (by first | rfl | (simp only [firstArgMember]; rfl)) ?_)
  refine wpAny_newObj_type ?_ (by size_fits)
  simp only [raiseNew]
  refine wpAny_bind (wpAny_handled ?_)
  first | rw [show A.in1.handled = none from hh] | rw [hh]
  refine wpAny_bind (wpAny_pure (wpAny_throw ?_))
  refine wpAny_bind (wpAny_isInstance (T := "StopIteration") (b := true) ⟨_, Heap.get?_push_size _ rfl, rfl⟩ isSubtype_stop ?_)
  exact wpAny_pure (hQ _ ((xb.push _).push _))
theorem iter_rvt {it l : Addr} {i : Int} {Q : Value → Shared → Prop} (hit : IsRvt s.heap it l i) (h : Q (.ref it) s) : wpAny (model prog w) A (pyIter (.ref it)) Q E s := by
  refine wpAny_pyIter_slot hit.typeIs slot_rvt_iter (wpAny_call_entry slot_rvt_iter hit.typeIs entry_rvt_iter ?_ (args_rvt_iter_1 _))
  show wpAny _ _ (ret (.ref it)) _ _ s
  exact wpAny_pure ⟨_, rfl, "reversed", _, hit.typeIs, slot_rvt_next.lookup, h⟩
end
/-- the tuple at a, n items, from its end -/
def Itw (K : PySem.W.Frag) (a : Addr) (n : Nat) : It :=
  ⟨fun i H => i < n ∧ ∃ (xs : List V) (x : V), SqT K H a xs ∧ xs[n - 1 - i]? = some x, fun i H x H' => H' = H ∧ ∀ xs, SqT K H a xs → xs[n - 1 - i]? = some x, fun i _ => n ≤ i⟩
theorem turn_rvt {P : Program} {w : World} {K : PySem.W.Frag} {tg : Expr} (a it : Addr) (n : Nat) : Turn P w K tg (Itw K a n) [it] it (fun i h => i ≤ n ∧ IsRvt h it a ((n : Int) - 1 - (i : Nat))) where
  mem := by simp
  obj := fun i h st b hb => by
    have e : b = it := by simpa using hb
    subst e
    obtain ⟨_, o, e, c, d⟩ := st
    exact ⟨o, e, fun v z => by rw [d] at z; cases z⟩
  keep := fun i h h' st k => ⟨st.1, st.2.at fun o e => k it (by simp) o e⟩
  item := by
    intro X hP hw hK hc i pins s σ H E I hf st hg
    subst hP hw hK
    obtain ⟨hin, xs, x, hq, hx⟩ := hg
    obtain ⟨its, rv, p, hz⟩ := I.tuple hq
    obtain ⟨u, hu, ru⟩ := rv.get hx
    obtain ⟨f0, f1, f2, f3, f4, f5⟩ := hf it (by simp)
    obtain ⟨_, hit⟩ := st
    have e1 : (n : Int) - 1 - ((i : Nat) : Int) = ((n - 1 - i : Nat) : Int) := by omega
    rw [e1] at hit
    have hl := rv.length
    have hn := line63
    refine next_rvt hit p (x := u) (by simpa using hu) (by simp only [List.size_toArray]; omega) fun h' st' sb => ?_
    have e2 : ((n - 1 - i : Nat) : Int) - 1 = (n : Int) - 1 - ((i + 1 : Nat) : Int) := by omega
    rw [e2] at st'
    have I1 : Inv X pins σ H { s with heap := h', toks := s.toks + 1 } := I.turned (t' := s.toks + 1) (fun b o hb e => (sb.2 b hb).trans e) f0 f1 f3 f4 f5
    obtain ⟨o, e, c, d⟩ := id st'
    exact ⟨u, rfl, go_of (s := { s with heap := h', toks := s.toks + 1 }) e c d (by decide) ⟨x, H, I1, ru, ⟨rfl, fun ys hy => by rw [I.tuple_inj hy hq]; exact hx⟩, ⟨hin, st'⟩, fun b hb => (hf b hb).1⟩⟩
  done := by
    intro X hP hw hK hc i pins s σ H E I hf st hg
    subst hP hw hK
    obtain ⟨f0, f1, f2, f3, f4, f5⟩ := hf it (by simp)
    obtain ⟨hin, hit⟩ := st
    have hge : n ≤ i := hg
    have e1 : (n : Int) - 1 - ((i : Nat) : Int) = -1 := by omega
    rw [e1] at hit
    exact next_rvt_end (I.ok.hd hc) hit fun h' eb => ⟨rfl, I.turned (t' := s.toks) (fun b o hb e => eb b o hb e) f0 f1 f3 f4 f5⟩
  self := fun A i s Q E st h => iter_rvt st.2 h
def iRvt (K : PySem.W.Frag) (ta : TA) : TI := fun σ H R => ta σ H fun vs H1 => ∃ (a : Addr) (xs : List V), vs = [.ref a] ∧ SqT K H1 a xs ∧ R (Itw K a xs.length) H1
section
variable {X : Cx} {tg : Expr}
theorem pi_rvt {e : Expr} {ta : TA} {p pos : Pos} (hg : Gl X "reversed") (hm : X.mg "reversed" = none) (ha : PA X [e] ta) (hs : starEach [e] X.env = [(false, eval e X.env)] := by rfl) : PI X tg (.Call (.Name "reversed" p) [e] [] pos) (iRvt X.K ta) := by
  intro pins s σ H R I h
  refine Call_ (ld_blt I hg hm boot_reversed5 (PyProof.Rows.callWith_type1 (thn (ha pos pins s σ H _ I h) fun us s1 ⟨vs, H1, I1, r1, q1⟩ => ?_) hs rfl))
  obtain ⟨a, xs, e, hq, q⟩ := q1
  subst e
  cases r1 with
  | cons r rr =>
    cases rr
    cases r
    obtain ⟨its, rv, p', hz⟩ := I1.tuple hq
    have hl := rv.length
    have hn := line63
    have e1 : ((its.toArray.size : Nat) : Int) - 1 = (xs.length : Int) - 1 - ((0 : Nat) : Int) := by simp only [List.size_toArray]; omega
    refine call_rvt p' (by simp only [List.size_toArray]; omega) (iter_rvt (l := a) (i := ((its.toArray.size : Nat) : Int) - 1) ⟨_, Heap.get?_push_size _ rfl, rfl, rfl⟩ ?_)
    refine pi_one (tk := s1.toks + 1 + 1) I1 _ (turn_rvt a _ xs.length) ⟨Nat.zero_le _, ?_⟩ q
    rw [← e1]
    exact ⟨_, Heap.get?_push_size _ rfl, rfl, rfl⟩
/-- over reversed(t): the items from the end -/
theorem for_rvt {K : PySem.W.Frag} {a : Addr} {xs : List V} {g : TG} {tb : TS} {D : Ends} {σ : L2.St} {H : Hp} (Pv : Nat → L2.St → Hp → Prop) (h0 : Pv 0 σ H) (hl : ∀ i σ H, i ≤ xs.length → Pv i σ H → SqT K H a xs)
    (hs : ∀ i x σ H, i < xs.length → xs[xs.length - 1 - i]? = some x → Pv i σ H → g x σ H fun σ2 H2 => tb { D with nx := Pv (i + 1), ct := Pv (i + 1), bk := D.nx } σ2 H2) (hd : ∀ σ H, Pv xs.length σ H → D.nx σ H) :
    ∃ W : Nat → Nat → L2.St → Hp → Prop, (∃ m, W 0 m σ H) ∧ ∀ i m σ H, W i m σ H →
      ((Itw K a xs.length).stop i H ∧ D.nx σ H) ∨ ((Itw K a xs.length).go i H ∧ ∃ N : L2.St → Hp → Prop, (∀ σ' H', N σ' H' → ∃ m', m' < m ∧ W (i + 1) m' σ' H') ∧ ∀ x H', (Itw K a xs.length).yld i H x H' → g x σ H' fun σ2 H2 => tb { D with nx := N, ct := N, bk := D.nx } σ2 H2) := by
  refine ⟨fun i m σ H => m = xs.length - i ∧ i ≤ xs.length ∧ Pv i σ H, ⟨xs.length, by simp, Nat.zero_le _, h0⟩, ?_⟩
  rintro i m σ H ⟨rfl, hi, p⟩
  by_cases hlt : i < xs.length
  · have hx : xs[xs.length - 1 - i]? = some (xs[xs.length - 1 - i]'(by omega)) := List.getElem?_eq_getElem (by omega)
    refine .inr ⟨⟨hlt, xs, _, hl i σ H hi p, hx⟩, Pv (i + 1), fun σ' H' p' => ⟨xs.length - (i + 1), by omega, rfl, hlt, p'⟩, fun x H' y => ?_⟩
    obtain ⟨e, y⟩ := y
    subst e
    exact hs i x σ _ hlt (y xs (hl i σ _ hi p)) p
  · have e : i = xs.length := by omega
    subst e
    exact .inl ⟨Nat.le_refl _, hd σ H p⟩
end
/-! ### t[lo:hi], the whole of it: t itself -/
section
variable {prog : Program} {w : World} {A : Around} {E : Value → Shared → Prop} {s : Shared}
theorem getItem_tuple_whole {t sl : Addr} {items : Array Value} {vl vu : Value} {lo hi : Option Int} {Q : Value → Shared → Prop} (ht : IsTup s.heap t items) (hs : s.heap.IsSliceOf sl vl vu .none) (pl : IsPart vl lo) (pu : IsPart vu hi)
    (hw : HT.sIx items.size 0 lo = 0 ∧ HT.sIx items.size items.size hi = items.size) (h : Q (.ref t) s) : wpAny (model prog w) A (getItem (.ref t) (.ref sl)) Q E s := by
  obtain ⟨os, hos, hcs, hds⟩ := id hs
  have hTs : s.TypeIs (.ref sl) "slice" := ⟨os, hos, hcs⟩
  unfold getItem
  try with_reducible refine wpAny_holding ?_
  first | refine wpAny_bind (wpAny_pure ?_) | skip
  refine wpAny_bind (wpAny_sequenceKey ht.typeIs (by decide) ?_)
  refine wpAny_bind (wpAny_callSpecial?_slot (name := Str.ofString "__getitem__") ht.typeIs PyProof.Rows.slot_tuple_getitem
    (wpAny_call_entry PyProof.Rows.slot_tuple_getitem ht.typeIs entry_tuple_getitem ?_ (args_tuple_getitem _ _)))
  show wpAny _ _ (Builtin.Tuple.tupleItemsOf (.ref t) >>= _) _ _ s
  refine wpAny_bind (tupleItemsOf_ ht ?_)
  refine wpAny_bind (wpAny_typeOf hTs ?_)
  rw [if_pos (by decide)]
  refine wpAny_bind (HT.sliceApplied_gen hs pl pu ?_)
  rw [hw.1, hw.2]
  show wpAny _ _ (if (((0 : Nat) : Int) == 0 && (1 : Int) == 1 && (items.size - 0) == items.size) = true then _ else _) _ _ s
  rw [if_pos (by simp)]
  refine wpAny_bind ?_
  unfold Builtin.Tuple.tupleIsExact
  refine wpAny_bind (wpAny_typeOf ht.typeIs (wpAny_pure ?_))
  rw [if_pos (by decide)]
  exact wpAny_bind (wpAny_rule (wpAny_pure ⟨_, rfl, wpAny_pure h⟩))
end
section
variable {X : Cx}
def rSlW (K : PySem.W.Frag) : V → Option Int → Option Int → Hp → VK → Prop := fun x lo hi H Q => ∃ a xs, x = .ref a ∧ SqT K H a xs ∧ (HT.sIx xs.length 0 lo = 0 ∧ HT.sIx xs.length xs.length hi = xs.length) ∧ Q (.ref a) H
theorem sl_whole : SlR X (rSlW X.K) := by
  intro pins s σ H x v vl vu lo hi sl Q I rx hs pl pu h
  obtain ⟨a, xs, rfl, hx, hw, q⟩ := h
  cases rx
  obtain ⟨its, r, ht, hz⟩ := I.tuple hx
  have hlen : its.toArray.size = xs.length := by rw [List.size_toArray]; exact r.length.symm
  refine ⟨"tuple", _, PyProof.Rows.slot_tuple_getitem.lookup, ht.typeIs, ?_⟩
  exact getItem_tuple_whole ht hs pl pu (by rw [hlen]; exact hw) ⟨.ref a, H, I, rfl, q⟩
theorem _root_.L2.Same.seqT {K : PySem.W.Frag} {H H' : Hp} {a : Addr} {xs : List V} (e : Same H H') (h : SqT K H a xs) : SqT K H' a xs := by
  rcases h with (h | ⟨o, h⟩) | h
  · exact .inl (.inl (e _ _ h))
  · exact .inl (.inr ⟨o, e _ _ h⟩)
  · exact .inr h
theorem same_new {H : Hp} {p : Addr} {o : HO} (h : H p = none) : Same H (upd H p o) := fun b q e => by
  rw [upd_ne (ne_of_none e h)]
  exact e
/-- t[lo:hi], whole or not -/
def rSlN (K : PySem.W.Frag) : V → Option Int → Option Int → Hp → VK → Prop := fun x lo hi H Q => ∃ a xs, x = .ref a ∧ SqT K H a xs ∧ ∀ p H', Same H H' → SqT K H' p (cutV xs lo hi) → Q (.ref p) H'
theorem sl_any : SlR X (rSlN X.K) := by
  intro pins s σ H x v vl vu lo hi sl Q I rx hs pl pu h
  obtain ⟨a, xs, e, hx, q⟩ := h
  by_cases hw : HT.sIx xs.length 0 lo = 0 ∧ HT.sIx xs.length xs.length hi = xs.length
  · refine sl_whole pins s σ H x v vl vu lo hi sl Q I rx hs pl pu ⟨a, xs, e, hx, hw, q a H (Same.refl H) ?_⟩
    have c : cutV xs lo hi = xs := by
      unfold cutV
      rw [hw.1, hw.2, List.drop_zero, Nat.sub_zero, List.take_length]
    rw [c]
    exact hx
  · exact sl_tup pins s σ H x v vl vu lo hi sl Q I rx hs pl pu ⟨a, xs, e, hx, hw, fun p hp => q p _ (same_new hp) (SqT.of upd_same)⟩
end
end HpR
end
section
set_option Elab.async false
set_option linter.all false
set_option maxRecDepth 100000
set_option maxHeartbeats 2000000
namespace Hp
open PySem PySem.Spec PyProof.Rows L2 HpR
/-! ### ints that are words -/
theorem bx (x y : Nat) : Builtin.bitXor (x : Int) (y : Int) = ((x ^^^ y : Nat) : Int) := by
  rw [bitXor_and, bitAnd_pp (Int.natCast_nonneg _) (Int.natCast_nonneg _), Int.toNat_natCast, Int.toNat_natCast]
  have := xor_and x y
  omega
theorem ba (x : Nat) : Builtin.bitAnd (x : Int) 18446744073709551615 = ((x % 2 ^ 64 : Nat) : Int) := by
  rw [bitAnd_pp (Int.natCast_nonneg _) (by decide), Int.toNat_natCast]
  have e : (18446744073709551615 : Int).toNat = 18446744073709551615 := rfl
  rw [e, low64]
theorem bo (x y : Nat) (h : x &&& y = 0) : Builtin.bitOr (x : Int) (y : Int) = ((x + y : Nat) : Int) := by
  rw [bitOr_and, bitAnd_pp (Int.natCast_nonneg _) (Int.natCast_nonneg _), Int.toNat_natCast, Int.toNat_natCast, h]
  omega
theorem dv (x n : Nat) : (x : Int) / 2 ^ n = ((x / 2 ^ n : Nat) : Int) := by
  rw [Int.natCast_ediv, Int.natCast_pow]
  rfl
theorem fold_int (a b : Nat) : Builtin.bitXor (Builtin.bitAnd ((a : Int) * (b : Int)) 18446744073709551615) ((a : Int) * (b : Int) / 2 ^ (64 : Int).toNat) = ((Sp05.fold a b : Nat) : Int) := by
  have e : (a : Int) * (b : Int) = ((a * b : Nat) : Int) := (Int.natCast_mul a b).symm
  have e2 : (64 : Int).toNat = 64 := rfl
  rw [e, e2, ba, dv, bx]
  rfl
theorem turn_int {h : Nat} (hh : h < 2 ^ 64) : Builtin.bitOr (Builtin.bitAnd ((h : Int) * 2 ^ (23 : Int).toNat) 18446744073709551615) ((h : Int) / 2 ^ ((64 : Int) - 23).toNat) = ((Sp05.turned h : Nat) : Int) := by
  have e1 : (23 : Int).toNat = 23 := rfl
  have e2 : ((64 : Int) - 23).toNat = 41 := rfl
  have e : (h : Int) * 2 ^ 23 = ((h * 2 ^ 23 : Nat) : Int) := by rw [Int.natCast_mul, Int.natCast_pow]; rfl
  rw [e1, e2, e, ba, dv, bo _ _ (turn_and hh)]
  rfl
theorem word_lt {x : Nat} (h : x < 2 ^ 64) : -(2 ^ 64) < (x : Int) ∧ (x : Int) < 2 ^ 64 := by
  constructor
  · omega
  · have : (x : Int) < ((2 ^ 64 : Nat) : Int) := by exact_mod_cast h
    exact this
/-! ### keys -/
def vb (k : List UInt8) : List V := k.map fun b => V.int (bI b)
def kk (k : List UInt8) : List L2.Key := k.map fun b => Sum.inl (bI b)
theorem kk_vb (k : List UInt8) : (kk k).map kV = vb k := by
  unfold kk vb
  rw [List.map_map]
  rfl
theorem bI_inj {a b : UInt8} (h : bI a = bI b) : a = b := by
  unfold bI at h
  exact UInt8.toNat_inj.mp (by omega)
theorem kk_inj : ∀ {a b : List UInt8}, kk a = kk b → a = b
  | [], [], _ => rfl
  | [], _ :: _, h => by cases h
  | _ :: _, [], h => by cases h
  | x :: a, y :: b, h => by
    have h' : (Sum.inl (bI x) : L2.Key) :: kk a = Sum.inl (bI y) :: kk b := h
    injection h' with h1 h2
    rw [bI_inj (Sum.inl.inj h1), kk_inj h2]
theorem kk_iff {a b : List UInt8} : kk a = kk b ↔ a = b := ⟨kk_inj, fun e => by rw [e]⟩
theorem vb_length (k : List UInt8) : (vb k).length = k.length := List.length_map _
/-- the pairs of the dict -/
def enc (l : List (Sp05.Key × Nat)) : List (List L2.Key × V) := l.map fun x => (kk x.1, V.int (x.2 : Nat))
theorem enc_length (l : List (Sp05.Key × Nat)) : (enc l).length = l.length := List.length_map _
def valOf (l : List (Sp05.Key × Nat)) (k : Sp05.Key) : Option Nat := (l.find? fun x => x.1 == k).map (·.2)
theorem enc_val (k : Sp05.Key) : ∀ (l : List (Sp05.Key × Nat)), valV (enc l) (kk k) = (valOf l k).map fun (n : Nat) => V.int n
  | [] => rfl
  | x :: l => by
    have ih := enc_val k l
    show valV ((kk x.1, V.int (x.2 : Nat)) :: enc l) (kk k) = _
    unfold valOf at ih ⊢
    by_cases e : x.1 = k
    · rw [valV_pos (show (kk x.1, V.int (x.2 : Nat)).1 = kk k by rw [e]), List.find?_cons, show (x.1 == k) = true from beq_iff_eq.mpr e]
      rfl
    · rw [valV_neg (show ¬ (kk x.1, V.int (x.2 : Nat)).1 = kk k from fun q => e (kk_inj q)), ih, List.find?_cons, show (x.1 == k) = false from beq_eq_false_iff_ne.mpr e]
theorem enc_map (k : Sp05.Key) (v : Nat) (l : List (Sp05.Key × Nat)) : enc (l.map fun x => if x.1 == k then (k, v) else x) = (enc l).map fun kv => if kv.1 = kk k then (kv.1, V.int v) else kv := by
  unfold enc
  rw [List.map_map, List.map_map]
  refine List.map_congr_left fun x _ => ?_
  show (fun x : Sp05.Key × Nat => (kk x.1, V.int (x.2 : Nat))) (if x.1 == k then (k, v) else x) = if kk x.1 = kk k then (kk x.1, V.int v) else (kk x.1, V.int (x.2 : Nat))
  by_cases e : x.1 = k
  · rw [if_pos (show kk x.1 = kk k by rw [e]), if_pos (beq_iff_eq.mpr e), e]
  · rw [if_neg (show ¬ kk x.1 = kk k from fun q => e (kk_inj q)), if_neg (fun q => e (beq_iff_eq.mp q))]
theorem enc_put_old {k : Sp05.Key} {o : Nat} (v : Nat) {l : List (Sp05.Key × Nat)} (h : valOf l k = some o) : putK (enc l) (kk k) (V.int v) = enc (l.map fun x => if x.1 == k then (k, v) else x) := by
  have e : ((enc l).any fun kv => decide (kv.1 = kk k)) = true := by
    rw [valV_any, enc_val, h]
    rfl
  unfold putK
  rw [if_pos e, enc_map]
theorem enc_put_new {k : Sp05.Key} (v : Nat) {l : List (Sp05.Key × Nat)} (h : valOf l k = none) : putK (enc l) (kk k) (V.int v) = enc (l ++ [(k, v)]) := by
  have e : ¬ ((enc l).any fun kv => decide (kv.1 = kk k)) = true := by
    rw [valV_any, enc_val, h]
    exact Bool.false_ne_true
  unfold putK
  rw [if_neg e]
  unfold enc
  rw [List.map_append]
  rfl
theorem enc_drop (k : Sp05.Key) : ∀ (l : List (Sp05.Key × Nat)), dropK (enc l) (kk k) = enc (l.filter fun x => x.1 != k)
  | [] => rfl
  | x :: l => by
    have ih := enc_drop k l
    show dropK ((kk x.1, V.int (x.2 : Nat)) :: enc l) (kk k) = _
    by_cases e : x.1 = k
    · rw [dropK_pos (show (kk x.1, V.int (x.2 : Nat)).1 = kk k by rw [e]), ih, List.filter_cons, if_neg (by simp [e])]
    · rw [dropK_neg (show ¬ (kk x.1, V.int (x.2 : Nat)).1 = kk k from fun q => e (kk_inj q)), ih, List.filter_cons, if_pos (by simp [e])]
      rfl
end Hp
end
section
set_option Elab.async false
set_option linter.all false
set_option maxRecDepth 100000
set_option maxHeartbeats 2000000
namespace Hp
open PySem PySem.Spec PyProof.Rows L2 HpR HpS
/-! ### keys that are rows of bytes: equal, less -/
theorem lex_bytes : ∀ (a b : Sp05.Key), HT.lexLt (a.map bI) (b.map bI) = Sp05.lessBytes a b
  | [], [] => rfl
  | [], _ :: _ => rfl
  | _ :: _, [] => rfl
  | x :: a, y :: b => by
    rw [List.map_cons, List.map_cons, HT.lexLt_cons, lex_bytes a b]
    show _ = (decide (x < y) || (x == y && Sp05.lessBytes a b))
    by_cases e : x = y
    · subst e
      rw [if_pos rfl, decide_eq_false (UInt8.lt_irrefl x), beq_self_eq_true, Bool.false_or, Bool.true_and]
    · rw [if_neg (fun q => e (bI_inj q)), beq_eq_false_iff_ne.mpr e, Bool.false_and, Bool.or_false]
      refine decide_eq_decide.mpr ?_
      unfold bI
      rw [UInt8.lt_iff_toNat_lt]
      omega
theorem vals_bytes : ∀ {k : Sp05.Key} {its : List Value}, Vals (vb k) its → IntsAre its (k.map bI)
  | [], its, r => by cases r; exact .nil
  | x :: k, its, r => by
    cases r with
    | cons r1 r2 =>
      obtain ⟨t, rfl⟩ := r1
      exact .cons _ _ (vals_bytes r2)
theorem bytes_at {k : Sp05.Key} {its : List Value} (r : Vals (vb k) its) {j : Nat} (h : j < its.toArray.size) : ∃ (b : UInt8) (t : Tok), k[j]? = some b ∧ its.toArray[j] = .int (bI b) t := by
  have hl := r.length
  rw [vb_length] at hl
  have hj : j < k.length := by rw [hl]; simpa using h
  have e : (vb k)[j]? = some (.int (bI k[j])) := by
    unfold vb
    rw [List.getElem?_map, List.getElem?_eq_getElem hj]
    rfl
  obtain ⟨u, hu, ru⟩ := r.get e
  obtain ⟨t, rfl⟩ := ru
  obtain ⟨h1, h2⟩ := List.getElem?_eq_some_iff.mp hu
  exact ⟨k[j], t, List.getElem?_eq_getElem hj, by simpa using h2⟩
theorem vb_inj {a b : Sp05.Key} (h : vb a = vb b) : a = b := by
  apply kk_inj
  have := h
  rw [← kk_vb, ← kk_vb] at this
  have inj : ∀ {l m : List L2.Key}, l.map kV = m.map kV → l = m := by
    intro l
    induction l with
    | nil => intro m h; cases m with | nil => rfl | cons => cases h
    | cons x l ih =>
      intro m h
      cases m with
      | nil => cases h
      | cons y m =>
        rw [List.map_cons, List.map_cons] at h
        injection h with h1 h2
        have e : x = y := by
          cases x <;> cases y <;> simp [kV] at h1 <;> simp [h1]
        rw [e, ih h2]
  exact inj this
theorem all_same {a b : Sp05.Key} : ((List.range (min a.length b.length)).all (fun j => decide (a[j]? = b[j]?)) && a.length == b.length) = decide (a = b) := by
  by_cases e : a = b
  · subst e
    simp
  · rw [decide_eq_false e, Bool.and_eq_false_iff]
    by_cases l : a.length = b.length
    · refine .inl ?_
      rw [List.all_eq_false]
      have : ∃ j, j < a.length ∧ a[j]? ≠ b[j]? := by
        refine Classical.byContradiction fun no => e (List.ext_getElem? fun j => ?_)
        by_cases hj : j < a.length
        · exact Classical.byContradiction fun z => no ⟨j, hj, z⟩
        · rw [List.getElem?_eq_none (by omega), List.getElem?_eq_none (by omega)]
      obtain ⟨j, hj, ne⟩ := this
      exact ⟨j, List.mem_range.mpr (by omega), by simpa using ne⟩
    · exact .inr (beq_eq_false_iff_ne.mpr l)
section
variable {prog : Program} {w : World} {A : Around} {E : Value → Shared → Prop} {s : Shared}
theorem eq_keys {a b : Addr} {k l : Sp05.Key} {is js : List Value} (ha : IsTup s.heap a is.toArray) (hb : IsTup s.heap b js.toArray) (rk : Vals (vb k) is) (rl : Vals (vb l) js) (hu : A.units < cLine) : SeqAt.EqAt A s (.ref a) (.ref b) (decide (k = l)) := by
  by_cases e : a = b
  · subst e
    obtain ⟨o, ho, hc, n, hd⟩ := ha
    obtain ⟨o', ho', hc', n', hd'⟩ := hb
    rw [ho] at ho'
    cases ho'
    rw [hd] at hd'
    cases hd'
    rw [decide_eq_true (vb_inj (Vals.inj rk rl))]
    exact SeqAt.EqAt.same _
  · have q := SeqAt.EqAt.of_refs (A := A) (s := s) e (SeqAt.RcAt.tuples (e := fun j => decide (k[j]? = l[j]?)) ha hb hu fun j h1 h2 => by
      obtain ⟨x, t, ex, e1⟩ := bytes_at rk h1
      obtain ⟨y, u, ey, e2⟩ := bytes_at rl h2
      rw [e1, e2, ex, ey]
      have z := SeqAt.EqAt.int_int (A := A.in1) (s := s) (bI x) t (bI y) u
      have e3 : (bI x == bI y) = decide ((some x : Option UInt8) = some y) := by
        by_cases c : x = y
        · subst c; simp
        · rw [beq_eq_false_iff_ne.mpr fun q => c (bI_inj q)]
          exact (decide_eq_false fun q => c (Option.some.inj q)).symm
      rw [e3] at z
      exact z)
    have l1 := rk.length
    have l2 := rl.length
    rw [vb_length] at l1 l2
    rw [List.size_toArray, List.size_toArray, ← l1, ← l2, all_same] at q
    exact q
/-- two rows of the sorting -/
theorem row_lt {t : Sp05.Abs} {a b c d : Addr} {k l : Sp05.Key} {i1 i2 j1 j2 : Tok} {is js : List Value} {R : Bool → Shared → Prop}
    (ha : IsTup s.heap a #[.int (t.home k : Nat) i1, .int (Sp05.mix t.seed k : Nat) i2, .ref c]) (hb : IsTup s.heap b #[.int (t.home l : Nat) j1, .int (Sp05.mix t.seed l : Nat) j2, .ref d])
    (hc : IsTup s.heap c is.toArray) (hd : IsTup s.heap d js.toArray) (rk : Vals (vb k) is) (rl : Vals (vb l) js) (hu : A.units < cLine) (h : R (t.less k l) s) : wpAny (model prog w) A (keyLt' (tuples' true) (.ref a) (.ref b)) R E s := by
  obtain ⟨oa, ga, ca, na, da⟩ := ha
  obtain ⟨ob, gb, cb, nb, db⟩ := hb
  have inat : ∀ x y : Nat, ((x : Int) == (y : Int)) = (x == y) := fun x y => by
    by_cases e : x = y
    · subst e; simp
    · rw [beq_eq_false_iff_ne.mpr e, beq_eq_false_iff_ne.mpr (by omega)]
  have ilt : ∀ x y : Nat, decide ((x : Int) < (y : Int)) = decide (x < y) := fun x y => decide_eq_decide.mpr (by omega)
  have hl : t.less k l = (decide (t.home k < t.home l) || (t.home k == t.home l && (decide (Sp05.mix t.seed k < Sp05.mix t.seed l) || (Sp05.mix t.seed k == Sp05.mix t.seed l && Sp05.lessBytes k l)))) := rfl
  rw [hl] at h
  refine PySem.W.kat_lt ga da gb db (PySem.W.kat_cons (SeqAt.EqAt.int_int _ _ _ _ prog w _ _ ?_))
  rw [inat]
  generalize t.home k = hk at *
  generalize t.home l = hl' at *
  generalize Sp05.mix t.seed k = mk at *
  generalize Sp05.mix t.seed l = ml at *
  by_cases e1 : hk = hl'
  · subst e1
    rw [beq_self_eq_true] at h ⊢
    rw [decide_eq_false (Nat.lt_irrefl _), Bool.false_or, Bool.true_and] at h
    refine PySem.W.kat_yes (PySem.W.kat_cons (SeqAt.EqAt.int_int _ _ _ _ prog w _ _ ?_))
    rw [inat]
    by_cases e2 : mk = ml
    · subst e2
      rw [beq_self_eq_true] at h ⊢
      rw [decide_eq_false (Nat.lt_irrefl _), Bool.false_or, Bool.true_and] at h
      refine PySem.W.kat_yes (PySem.W.kat_cons (eq_keys hc hd rk rl hu prog w _ _ ?_))
      by_cases e3 : k = l
      · subst e3
        rw [decide_eq_true rfl]
        rw [lessBytes_irrefl] at h
        exact PySem.W.kat_yes (PySem.W.kat_nil h)
      · rw [decide_eq_false e3]
        refine PySem.W.kat_no (PySem.W.kat_one _ _ (HT.lt_tupInts hc hd (by simpa using vals_bytes rk) (by simpa using vals_bytes rl) hu ?_))
        rw [lex_bytes]
        exact h
    · rw [beq_eq_false_iff_ne.mpr e2] at h ⊢
      rw [Bool.false_and, Bool.or_false] at h
      refine PySem.W.kat_no (PySem.W.kat_one _ _ (PyProof.Rows.lt_int ?_))
      show R (decide ((mk : Int) < (ml : Int))) s
      rw [ilt]
      exact h
  · rw [beq_eq_false_iff_ne.mpr e1] at h ⊢
    rw [Bool.false_and, Bool.or_false] at h
    refine PySem.W.kat_no (oneLt_int ?_)
    rw [ilt]
    exact h
end
/-! ### sorted(rows) -/
/-- a row of the sorting at r: the key's home, its mix, the key -/
def RowAt (t : Sp05.Abs) (H : Hp) (r : Addr) (k : Sp05.Key) : Prop := ∃ a, H r = some (.tup [.int (t.home k : Nat), .int (Sp05.mix t.seed k : Nat), .ref a]) ∧ H a = some (.tup (vb k))
theorem RowAt.inj {t : Sp05.Abs} {H : Hp} {r : Addr} {k l : Sp05.Key} (h : RowAt t H r k) (h' : RowAt t H r l) : k = l := by
  obtain ⟨a, h1, h2⟩ := h
  obtain ⟨b, h3, h4⟩ := h'
  rw [h1] at h3
  have e := Option.some.inj h3
  injection e with e
  injection e with _ e
  injection e with _ e
  injection e with e _
  injection e with e
  subst e
  rw [h2] at h4
  have e := Option.some.inj h4
  injection e with e
  exact vb_inj e
open Classical in
noncomputable def rkOf (t : Sp05.Abs) (H : Hp) : Value → Nat
  | .ref r => if h : ∃ k, RowAt t H r k then rank t (Classical.choose h) else 0
  | _ => 0
open Classical in
theorem rkOf_eq {t : Sp05.Abs} {H : Hp} {r : Addr} {k : Sp05.Key} (h : RowAt t H r k) : rkOf t H (.ref r) = rank t k := by
  have e : ∃ k, RowAt t H r k := ⟨k, h⟩
  show (if h : ∃ k, RowAt t H r k then rank t (Classical.choose h) else 0) = _
  rw [dif_pos e, RowAt.inj (Classical.choose_spec e) h]
theorem refs_of : ∀ {rs : List Addr} {its : List Value}, Vals (rs.map V.ref) its → its = rs.map Value.ref
  | [], _, r => by cases r; rfl
  | x :: rs, _, r => by
    cases r with
    | cons r1 r2 =>
      cases r1
      rw [refs_of r2]
      rfl
theorem refs_vals : ∀ (rs : List Addr), Vals (rs.map V.ref) (rs.map Value.ref)
  | [] => .nil
  | x :: rs => .cons rfl (refs_vals rs)
theorem paired_mem {α β : Type} {G : α → β → Prop} {l : List α} {m : List β} (h : Paired G l m) : ∀ a ∈ l, ∃ b ∈ m, G a b := by
  induction h with
  | nil => intro a ha; cases ha
  | cons r t ih =>
    intro a ha
    rcases List.mem_cons.mp ha with rfl | ha
    · exact ⟨_, List.mem_cons_self .., r⟩
    · obtain ⟨b, hb, g⟩ := ih a ha
      exact ⟨b, List.mem_cons_of_mem _ hb, g⟩
theorem self_refs : ∀ (rs : List Addr), Paired (fun (v : Value) (r : Addr) => v = .ref r) (rs.map Value.ref) rs
  | [] => .nil
  | _ :: rs => .cons rfl (self_refs rs)
theorem eq_refs {l : List Value} {rs : List Addr} (h : Paired (fun (v : Value) (r : Addr) => v = .ref r) l rs) : l = rs.map Value.ref := by
  induction h with
  | nil => rfl
  | cons r t ih => rw [r, ih, List.map_cons]
/-- another order of the one row is another order of the other -/
theorem paired_perm {α β : Type} {G : α → β → Prop} {l l' : List α} (p : l'.Perm l) : ∀ {m : List β}, Paired G l m → ∃ m', m'.Perm m ∧ Paired G l' m' := by
  induction p with
  | nil => intro m h; exact ⟨m, .refl _, h⟩
  | @cons x a b p ih =>
    intro m h
    cases h with
    | cons r t =>
      obtain ⟨m', p', t'⟩ := ih t
      exact ⟨_, p'.cons _, .cons r t'⟩
  | swap x y a =>
    intro m h
    cases h with
    | cons r t =>
      cases t with
      | cons r' t => exact ⟨_, .swap _ _ _, .cons r' (.cons r t)⟩
  | trans p q ihp ihq =>
    intro m h
    obtain ⟨m1, p1, t1⟩ := ihq h
    obtain ⟨m2, p2, t2⟩ := ihp t1
    exact ⟨m2, p2.trans p1, t2⟩
theorem paired_pairwise {α β : Type} {G : α → β → Prop} {f : α → Nat} {g : β → Nat} (e : ∀ a b, G a b → f a = g b) {l : List α} {m : List β} (h : Paired G l m) : l.Pairwise (fun x y => f x ≤ f y) → m.Pairwise (fun x y => g x ≤ g y) := by
  induction h with
  | nil => exact fun _ => .nil
  | @cons a b l m r t ih =>
    intro hp
    rw [List.pairwise_cons] at hp ⊢
    refine ⟨fun y hy => ?_, ih hp.2⟩
    have : ∃ x ∈ l, G x y := by
      clear ih hp
      induction t with
      | nil => cases hy
      | cons r' t' ih' =>
        rcases List.mem_cons.mp hy with rfl | hy
        · exact ⟨_, List.mem_cons_self .., r'⟩
        · obtain ⟨x, hx, g⟩ := ih' hy
          exact ⟨x, List.mem_cons_of_mem _ hx, g⟩
    obtain ⟨x, hx, gx⟩ := this
    rw [← e a b r, ← e x y gx]
    exact hp.1 x hx
def rSortT (K : PySem.W.Frag) (t : Sp05.Abs) : List V → Hp → VK → Prop := fun vs H Q => ∃ (a : Addr) (rs : List Addr) (ks : List Sp05.Key), vs = [V.ref a] ∧ SqL K H a (rs.map V.ref) ∧ Paired (RowAt t H) rs ks ∧ (∀ k ∈ ks, k ∈ t.keys.map (·.1)) ∧ rs.length ≤ 128 ∧
  ∀ (rs' : List Addr) (ks' : List Sp05.Key) (p : Addr), ks'.Perm ks → ks'.Pairwise (fun x y => rank t x ≤ rank t y) → Paired (RowAt t H) rs' ks' → H p = none → Q (.ref p) (upd H p (.lst (rs'.map V.ref)))
/-- a row in the heap -/
theorem row_heap {X : Cx} {pins : List (Addr × Obj)} {σ : L2.St} {H : Hp} {s : Shared} {t : Sp05.Abs} {r : Addr} {k : Sp05.Key} (I : Inv X pins σ H s) (h : RowAt t H r k) :
    ∃ (i1 i2 : Tok) (c : Addr) (is : List Value), IsTup s.heap r #[.int (t.home k : Nat) i1, .int (Sp05.mix t.seed k : Nat) i2, .ref c] ∧ IsTup s.heap c is.toArray ∧ Vals (vb k) is := by
  obtain ⟨a, h1, h2⟩ := h
  obtain ⟨_, its, rv, ht⟩ := I.hok r _ h1
  obtain ⟨_, is, rk, hc⟩ := I.hok a _ h2
  cases rv with
  | cons r1 rv =>
    obtain ⟨i1, rfl⟩ := r1
    cases rv with
    | cons r2 rv =>
      obtain ⟨i2, rfl⟩ := r2
      cases rv with
      | cons r3 rv =>
        cases r3
        cases rv
        exact ⟨i1, i2, a, is, ht, hc, rk⟩
theorem tup_keep {h h' : Heap} {a : Addr} {its : Array Value} (k : G.KeepsTups h h') (x : IsTup h a its) : IsTup h' a its := by
  obtain ⟨o, ho, hc, n, hd⟩ := x
  exact ⟨o, k a o ho hc, hc, n, hd⟩
theorem rows_kat {X : Cx} {pins : List (Addr × Obj)} {σ : L2.St} {H : Hp} {s : Shared} {t : Sp05.Abs} {h' : Heap} (I : Inv X pins σ H s) (kp : G.KeepsTups s.heap h') : ∀ {rs : List Addr} {ks : List Sp05.Key}, Paired (RowAt t H) rs ks →
    ∃ fs : List Value, fs.length = rs.length ∧ PySem.W.KatTups h' (rs.map Value.ref) fs ∧ ∀ v ∈ fs, ∃ n i, v = .int n i := by
  intro rs ks h
  induction h with
  | nil => exact ⟨[], rfl, PySem.W.KatTups.nil, fun v hv => nomatch hv⟩
  | cons r tl ih =>
    obtain ⟨fs, hl, kt, hf⟩ := ih
    obtain ⟨i1, i2, c, is, ht, _, _⟩ := row_heap I r
    obtain ⟨o, ho, hc, n, hd⟩ := tup_keep kp ht
    refine ⟨_ :: fs, by rw [List.length_cons, List.length_cons, hl], PySem.W.KatTups.cons ho hc hd rfl kt, fun v hv => ?_⟩
    rcases List.mem_cons.mp hv with rfl | hv
    · exact ⟨_, _, rfl⟩
    · exact hf v hv
theorem cr_sortT {X : Cx} (t : Sp05.Abs) (hu : X.A.units + 64 < cLine) : CallR X (.builtin "sorted") (rSortT X.K t) := by
  intro pins s σ H vs us Q I r h
  obtain ⟨a, rs, ks, rfl, hs, pr, hk, h128, q⟩ := h
  obtain ⟨its, rv, hl, _⟩ := I.list hs
  rw [Vals.ref1 r]
  have e := refs_of rv
  subst e
  have sz := sizeLine_eq
  have rowOf : ∀ x ∈ rs.map Value.ref, ∃ r k, x = .ref r ∧ RowAt t H r k ∧ k ∈ t.keys.map (·.1) := fun x hx => by
    obtain ⟨r, hr, rfl⟩ := List.mem_map.mp hx
    obtain ⟨k, hk', g⟩ := paired_mem pr r hr
    exact ⟨r, k, rfl, g, hk k hk'⟩
  have C : Cmp X.prog X.w X.A.in1.in1 s.heap (rs.map Value.ref) (rkOf t H) (t.keys.length + 1) true := by
    refine ⟨fun x hx => ?_, fun two u kp F R hR => ?_, fun u kp x hx y hy F R hR => ?_⟩
    · obtain ⟨r, k, rfl, g, _⟩ := rowOf x hx
      rw [rkOf_eq g]
      have := rank_le t k
      omega
    · obtain ⟨fs, hfl, kt, hf⟩ := rows_kat I kp pr
      rw [List.length_map] at two
      refine PySem.W.kat_kind (T := Value.type "int") kt (by omega) (fun v hv => ?_) rfl (by exact hR)
      obtain ⟨n, i, rfl⟩ := hf v hv
      exact PySem.W.Looks.of_pure rfl
    · obtain ⟨r, k, rfl, g, gk⟩ := rowOf x hx
      obtain ⟨r', l, rfl, g', gl⟩ := rowOf y hy
      obtain ⟨i1, i2, c, is, ht, hc, rk⟩ := row_heap I g
      obtain ⟨j1, j2, d, js, ht', hd, rl⟩ := row_heap I g'
      refine row_lt (t := t) (tup_keep kp ht) (tup_keep kp ht') (tup_keep kp hc) (tup_keep kp hd) rk rl (by show X.A.units + 1 + 1 < cLine; omega) ?_
      rw [rank_iff gk gl, ← rkOf_eq g, ← rkOf_eq g']
      exact hR
  refine sorted_by hl.isList C (by rw [List.length_map]; omega) fun out o1 o2 => ?_
  obtain ⟨rs', op, oe⟩ := paired_perm (G := fun (v : Value) (r : Addr) => v = .ref r) o1 (self_refs rs)
  have oe : out = rs'.map Value.ref := eq_refs oe
  subst oe
  obtain ⟨ks', kp, pr'⟩ := paired_perm op pr
  rw [List.pairwise_map] at o2
  have kw := paired_pairwise (g := rank t) (fun r k g => rkOf_eq g) pr' o2
  obtain ⟨ep, he⟩ := sortedAll_at s.heap (rs.map Value.ref) (rs'.map Value.ref).toArray
  have hlen : (rs'.map V.ref).length ≤ sizeLine := by rw [List.length_map, op.length_eq]; omega
  exact ⟨.ref _, upd H (s.heap.objs.size + 1) (.lst (rs'.map V.ref)), I.laid (t' := s.toks) (fun _ _ z => sortedAll_old z) (Nat.le_succ _) ⟨hlen, rs'.map Value.ref, ep, refs_vals rs', he⟩, rfl, q rs' ks' _ kp kw pr' (I.hok.fresh (Nat.le_succ _))⟩
/-! ### places.index(key) -/
/-- a row of places: None, or a key -/
def PV (H : Hp) (o : Option Sp05.Key) (v : V) : Prop := match o with
  | none => v = .non
  | some k => ∃ a, v = .ref a ∧ H a = some (.tup (vb k))
def rIndexT (K : PySem.W.Frag) : V → List V → Hp → VK → Prop := fun x xs H Q => ∃ (a b : Addr) (ys : List V) (P : List (Option Sp05.Key)) (k : Sp05.Key) (j : Nat), x = .ref a ∧ xs = [.ref b] ∧ SqL K H a ys ∧ Paired (PV H) P ys ∧ H b = some (.tup (vb k)) ∧
  P[j]? = some (some k) ∧ (∀ m, m < j → P[m]? ≠ some (some k)) ∧ Q (.int (j : Nat)) H
theorem paired_get2 {α β : Type} {G : α → β → Prop} {l : List α} {m : List β} (h : Paired G l m) : ∀ {i : Nat} {b : β}, m[i]? = some b → ∃ a, l[i]? = some a ∧ G a b := by
  induction h with
  | nil => intro i b e; simp at e
  | cons r t ih =>
    intro i b e
    cases i with
    | zero =>
      simp only [List.getElem?_cons_zero, Option.some.injEq] at e
      subst e
      exact ⟨_, rfl, r⟩
    | succ j =>
      simp only [List.getElem?_cons_succ] at e ⊢
      exact ih e
open Classical in
/-- whether a value is the key k's -/
noncomputable def isKey (H : Hp) (k : Sp05.Key) : Value → Bool
  | .ref a => decide (H a = some (.tup (vb k)))
  | _ => false
open Classical in
theorem isKey_yes {H : Hp} {k : Sp05.Key} {a : Addr} (h : H a = some (.tup (vb k))) : isKey H k (.ref a) = true := decide_eq_true h
open Classical in
theorem isKey_no {H : Hp} {k l : Sp05.Key} {a : Addr} (h : H a = some (.tup (vb l))) (n : l ≠ k) : isKey H k (.ref a) = false := decide_eq_false fun z => n (by
  rw [h] at z
  have z := Option.some.inj z
  injection z with z
  exact vb_inj z)
theorem mt_indexT {X : Cx} (hu : X.A.units + 64 < cLine) : MtR X "list.index" (rIndexT X.K) := by
  intro pins s σ H x xs v us Q I rx rxs h
  obtain ⟨a, b, ys, P, k, j, rfl, rfl, hs, pv, hb, hj, hno, q⟩ := h
  cases rx
  cases rxs with
  | cons ry rt =>
    cases rt
    cases ry
    obtain ⟨its, rv, ⟨⟨cls, dd, data, sl⟩, n, ho, hc, hdn, hd⟩, hlen⟩ := I.list hs
    simp only at hc hd
    subst hc hd
    obtain ⟨_, bs, rb, hbt⟩ := I.hok b _ hb
    have hsl := sizeLine_eq
    have hvl := rv.length
    have at_ : ∀ (m : Nat) (u : Value), its[m]? = some u → ∃ o, P[m]? = some o ∧ (o = none ∧ u = .none ∨ ∃ l c, o = some l ∧ u = .ref c ∧ H c = some (.tup (vb l))) := fun m u hu' => by
      have hm : m < ys.length := by
        have := (List.getElem?_eq_some_iff.mp hu').1
        omega
      obtain ⟨u2, e2, ru⟩ := rv.get (List.getElem?_eq_getElem hm)
      rw [hu'] at e2
      cases e2
      obtain ⟨o, eo, go⟩ := paired_get2 pv (List.getElem?_eq_getElem hm)
      refine ⟨o, eo, ?_⟩
      cases o with
      | none =>
        have go : ys[m] = .non := go
        rw [go] at ru
        exact .inl ⟨rfl, ru⟩
      | some l =>
        obtain ⟨c, ec, hc⟩ := go
        rw [ec] at ru
        exact .inr ⟨l, c, rfl, ru, hc⟩
    obtain ⟨y, ey, gy⟩ := paired_get pv hj
    obtain ⟨u, hu', ru⟩ := rv.get ey
    obtain ⟨c, ec, hck⟩ := gy
    subst ec
    cases ru
    obtain ⟨hjl, hje⟩ := List.getElem?_eq_some_iff.mp hu'
    have hj' : j < its.toArray.size := by simpa using hjl
    refine call_meets PySem.F.slot_list_index ⟨_, ho, rfl⟩ PySem.F.entry_list_index (PySem.F.args_list_index_2 _ _)
      (SeqAt.list_indexAt a its.toArray n dd sl (.ref b) (isKey H k) j hj' (by omega) ?_ ?_) ⟨ho, fun u' hu2 => ?_, ⟨.int (j : Nat), H, I.tok _, ⟨_, rfl⟩, q⟩⟩
    · have e1 : its.toArray[j] = .ref c := by simpa using hje
      rw [e1]
      exact isKey_yes hck
    · intro m hm hmj
      have hml : m < its.length := by simpa using hm
      obtain ⟨o, eo, go⟩ := at_ m its[m] (List.getElem?_eq_getElem hml)
      have e1 : its.toArray[m] = its[m] := by simp
      rw [e1]
      rcases go with ⟨_, eu⟩ | ⟨l, c', e2, eu, hc'⟩
      · rw [eu]
        rfl
      · rw [eu]
        refine isKey_no hc' fun z => hno m hmj ?_
        rw [eo, e2, z]
    · obtain ⟨m, hm, em⟩ := Array.mem_iff_getElem.mp hu2
      have hml : m < its.length := by simpa using hm
      have e1 : its[m] = u' := by simpa using em
      obtain ⟨o, eo, go⟩ := at_ m u' (by rw [List.getElem?_eq_getElem hml, e1])
      rcases go with ⟨_, eu⟩ | ⟨l, c', e2, eu, hc'⟩
      · subst eu
        exact SeqAt.EqAt.none_tuple hbt (by show X.A.units + 1 < cLine; omega)
      · subst eu
        obtain ⟨_, cs, rc, hct⟩ := I.hok c' _ hc'
        have z := eq_keys (A := X.A.in1) hct hbt rc rb (by show X.A.units + 1 < cLine; omega)
        have e3 : decide (l = k) = isKey H k (.ref c') := by
          by_cases c : l = k
          · subst c
            rw [decide_eq_true rfl]
            exact (isKey_yes hc').symm
          · rw [decide_eq_false c]
            exact (isKey_no hc' c).symm
        rw [e3] at z
        exact z
end Hp
end
section
set_option Elab.async false
set_option linter.all false
set_option maxRecDepth 100000
set_option maxHeartbeats 2000000
namespace Hp
open PySem PySem.Spec PyProof.Rows L2 HpR
theorem relI (i : Int) (t : Tok) : RelV (.int i) (.int i t) := ⟨t, rfl⟩
/-! ### the text by places -/
def top (i : Nat) : Stmt := PySem.Challenge.pw_homeplaces_s01_answers.main.body.getD i (.Pass ⟨0, 0, 0, 0⟩)
abbrev sFold : Stmt := top 17
abbrev sRot : Stmt := top 18
abbrev sEight : Stmt := top 19
abbrev sMix : Stmt := top 20
abbrev sRef : Stmt := top 26
abbrev sIs : Stmt := top 25
abbrev sHome : Stmt := top 21
/-- a def of the file's top: its name, how it binds -/
structure Fn (K : PySem.W.Frag) (mg : Str → Option Value) (x : Str) (f : Addr) (fd : FuncData) (ps : List Str) : Prop where
  mg : mg x = some (.ref f)
  kp : PySem.W.keepIn K (.ref f) = true
  b : Binds K fd ps []
/-- the constants and the built-in names -/
structure Txt (mg : Str → Option Value) : Prop where
  low : ∃ t, mg "LOW_64_BITS" = some (.int 18446744073709551615 t)
  k1 : ∃ t, mg "K1" = some (.int 11400714819323198485 t)
  k2 : ∃ t, mg "K2" = some (.int 15485907386658061715 t)
  k3 : ∃ t, mg "K3" = some (.int 11562461410679940143 t)
  k4 : ∃ t, mg "K4" = some (.int 16646288086500911323 t)
  len : mg "len" = none
  rev : mg "reversed" = none
  tup : mg "tuple" = none
section
variable {P : Program} {w : World} {K : PySem.W.Frag} {mg : Str → Option Value} {base : Heap}
/-! ### fold -/
def spFold : Sp := fun vs H Q _ => ∃ a b : Nat, vs = [.int a, .int b] ∧ a < 2 ^ 64 ∧ b < 2 ^ 64 ∧ Q (.int (Sp05.fold a b : Nat)) H
theorem scFold : FnScope ["a", "b", "product"] ["a", "b"] (defScope sFold) := ⟨rfl, rfl, rfl, by decide +kernel, rfl, by decide +kernel, by decide +kernel⟩
theorem ok_fold {f : Addr} {fd : FuncData} (F : Fun K "fold" "fold" sFold f fd) (T : Txt mg) : FnOk P w K mg base CX0 1 f fd ["a", "b"] spFold := by
  obtain ⟨t, hlow⟩ := T.low
  refine F.ok scFold (fun vs H Q E h => ?_) (fun cdv A outer s H vs Q E hr h => ?_)
  · obtain ⟨a, b, rfl, _⟩ := h
    rfl
  · obtain ⟨a, b, rfl, ha, hb, k⟩ := h
    refine ⟨_, pss_cons (ps_set (i := 2) scFold.nd rfl (Or.inl rfl) (pe_op op_mul (pv 0) (pv 1)))
      (pss_one (ps_ret (pe_op op_xor (pe_op op_and (pv 2) (pe_glob rfl hlow (relI _ _))) (pe_op op_shr (pv 2) pe_int)))), ?_⟩
    refine ⟨_, rfl, _, rfl, _, _, rfl, rfl, .inl (word_lt ha), ?_⟩
    refine ⟨_, rfl, _, _, rfl, rfl, _, rfl, _, _, rfl, rfl, (by show (0 : Int) ≤ 64; decide), _, _, rfl, rfl, ?_⟩
    show Q (.int (Builtin.bitXor (Builtin.bitAnd ((a : Int) * (b : Int)) 18446744073709551615) ((a : Int) * (b : Int) / 2 ^ (64 : Int).toNat))) H
    rw [fold_int]
    exact k
/-! ### rotated_left -/
def spRot : Sp := fun vs H Q _ => ∃ h : Nat, vs = [.int h, .int 23] ∧ h < 2 ^ 64 ∧ Q (.int (Sp05.turned h : Nat)) H
theorem scRot : FnScope ["word", "bits"] ["word", "bits"] (defScope sRot) := ⟨rfl, rfl, rfl, by decide +kernel, rfl, by decide +kernel, by decide +kernel⟩
theorem ok_rot {f : Addr} {fd : FuncData} (F : Fun K "rotated_left" "rotated_left" sRot f fd) (T : Txt mg) : FnOk P w K mg base CX0 1 f fd ["word", "bits"] spRot := by
  obtain ⟨t, hlow⟩ := T.low
  refine F.ok scRot (fun vs H Q E h => ?_) (fun cdv A outer s H vs Q E hr h => ?_)
  · obtain ⟨a, rfl, _⟩ := h
    rfl
  · obtain ⟨a, rfl, ha, k⟩ := h
    refine ⟨_, pss_one (ps_ret (pe_op op_or (pe_op op_and (pe_op op_shl (pv 0) (pv 1)) (pe_glob rfl hlow (relI _ _))) (pe_op op_shr (pv 0) (pe_op op_sub pe_int (pv 1))))), ?_⟩
    refine ⟨_, rfl, _, rfl, _, _, rfl, rfl, ⟨by decide, by decide, by omega⟩, _, _, rfl, rfl, _, rfl, _, rfl, _, _, rfl, rfl, _, _, rfl, rfl, (by show (0 : Int) ≤ 64 - 23; decide), _, _, rfl, rfl, ?_⟩
    show Q (.int (Builtin.bitOr (Builtin.bitAnd ((a : Int) * 2 ^ (23 : Int).toNat) 18446744073709551615) ((a : Int) / 2 ^ ((64 : Int) - 23).toNat))) H
    rw [turn_int ha]
    exact k
/-! ### is_number_of_places, home_of -/
def spIs : Sp := fun vs H Q _ => ∃ n : Int, vs = [.int n] ∧ Q (.bl (Sp05.many n)) H
theorem scIs : FnScope ["slots"] ["slots"] (defScope sIs) := ⟨rfl, rfl, rfl, by decide +kernel, rfl, by decide +kernel, by decide +kernel⟩
theorem ok_is {f : Addr} {fd : FuncData} (F : Fun K "is_number_of_places" "is_number_of_places" sIs f fd) (hms : ∃ t, mg "MOST_SLOTS" = some (.int 128 t)) : FnOk P w K mg base CX0 1 f fd ["slots"] spIs := by
  obtain ⟨tk, hms⟩ := hms
  refine F.ok scIs (fun vs H Q E h => ?_) (fun cdv A outer s H vs Q E hr h => ?_)
  · obtain ⟨n, rfl, _⟩ := h
    rfl
  · obtain ⟨n, rfl, k⟩ := h
    refine ⟨_, pss_one (ps_ret (pe_and (pe_cmpR op_ge (pv 0) pe_int (nomark _)) (pe_one (pe_cmpR op_le (pv 0) (pe_glob rfl hms (relI _ _)) (nomark _))))), ?_⟩
    refine ⟨_, rfl, _, _, rfl, rfl, _, rfl, ite2 (fun c => ?_) (fun c => ?_)⟩
    · refine ⟨_, rfl, _, _, rfl, rfl, ?_⟩
      have e : Sp05.many n = decide (n ≤ 128) := by
        show (decide (1 ≤ n) && decide (n ≤ 128)) = _
        rw [show decide (1 ≤ n) = true from c, Bool.true_and]
      rw [e] at k
      exact k
    · have e : Sp05.many n = false := by
        show (decide (1 ≤ n) && decide (n ≤ 128)) = _
        have c' : decide (1 ≤ n) = false := by simpa using c
        rw [c', Bool.false_and]
      rw [e] at k
      exact k
def spHome : Sp := fun vs H Q _ => ∃ m n : Nat, vs = [.int m, .int n] ∧ m < 2 ^ 64 ∧ Q (.int (m * n / 2 ^ 64 : Nat)) H
theorem scHome : FnScope ["mix", "slots"] ["mix", "slots"] (defScope sHome) := ⟨rfl, rfl, rfl, by decide +kernel, rfl, by decide +kernel, by decide +kernel⟩
theorem ok_home {f : Addr} {fd : FuncData} (F : Fun K "home_of" "home_of" sHome f fd) : FnOk P w K mg base CX0 1 f fd ["mix", "slots"] spHome := by
  refine F.ok scHome (fun vs H Q E h => ?_) (fun cdv A outer s H vs Q E hr h => ?_)
  · obtain ⟨m, n, rfl, _⟩ := h
    rfl
  · obtain ⟨m, n, rfl, hm, k⟩ := h
    refine ⟨_, pss_one (ps_ret (pe_op op_shr (pe_op op_mul (pv 0) (pv 1)) pe_int)), ?_⟩
    refine ⟨_, rfl, _, rfl, _, _, rfl, rfl, .inl (word_lt hm), _, _, rfl, rfl, (by show (0 : Int) ≤ 64; decide), ?_⟩
    have e : (m : Int) * (n : Int) / 2 ^ (64 : Int).toNat = ((m * n / 2 ^ 64 : Nat) : Int) := by
      have e1 : (m : Int) * (n : Int) = ((m * n : Nat) : Int) := (Int.natCast_mul m n).symm
      have e2 : (64 : Int).toNat = 64 := rfl
      rw [e1, e2, dv]
    show Q (.int ((m : Int) * (n : Int) / 2 ^ (64 : Int).toNat)) H
    rw [e]
    exact k
/-! ### refusal -/
def spRef : Sp := fun vs H Q _ => vs = [] ∧ ∀ l, H l = none → Q (.ref l) (upd H l (.lst [.int (-1), .int 0]))
theorem scRef : FnScope [] [] (defScope sRef) := ⟨rfl, rfl, rfl, by decide +kernel, rfl, by decide +kernel, by decide +kernel⟩
theorem ok_ref {f : Addr} {fd : FuncData} (F : Fun K "refusal" "refusal" sRef f fd) : FnOk P w K mg base CX0 1 f fd [] spRef := by
  refine F.ok scRef (fun vs H Q E h => ?_) (fun cdv A outer s H vs Q E hr h => ?_)
  · obtain ⟨rfl, _⟩ := h
    rfl
  · obtain ⟨rfl, k⟩ := h
    refine ⟨_, pss_one (ps_ret (pe_lst (pa_cons (pe_un un_neg pe_int) (pa_cons pe_int pa_nil)))), ?_⟩
    exact ⟨_, rfl, (by show 2 ≤ sizeLine; decide), fun l hl => k l hl⟩
end
end Hp
end
section
set_option Elab.async false
set_option linter.all false
set_option maxRecDepth 100000
set_option maxHeartbeats 2000000
namespace Hp
open PySem PySem.Spec PyProof.Rows L2 HpR
theorem cut_vb (k : List UInt8) (st : Nat) : cutV (vb k) (some (st : Int)) (some ((st : Int) + 8)) = vb ((k.drop st).take 8) := by
  have e : (st : Int) + 8 = ((st + 8 : Nat) : Int) := rfl
  unfold cutV
  rw [e, HT.sIx_nat, HT.sIx_nat, vb_length]
  unfold vb
  rw [← List.map_drop, ← List.map_take]
  congr 1
  by_cases h : st ≤ k.length
  · rw [Nat.min_eq_left h]
    by_cases h8 : st + 8 ≤ k.length
    · rw [Nat.min_eq_left h8, Nat.add_sub_cancel_left]
    · rw [Nat.min_eq_right (by omega), List.take_of_length_le (by rw [List.length_drop]; omega), List.take_of_length_le (by rw [List.length_drop]; omega)]
  · rw [Nat.min_eq_right (show k.length ≤ st by omega), Nat.min_eq_right (show k.length ≤ st + 8 by omega), List.drop_of_length_le (Nat.le_refl _), List.drop_of_length_le (by omega), List.take_nil, List.take_nil]
section
variable {P : Program} {w : World} {K : PySem.W.Frag} {mg : Str → Option Value} {base : Heap}
/-! ### eight_bytes -/
def spEight : Sp := fun vs H Q _ => ∃ (a : Addr) (st : Nat) (k : List UInt8), vs = [.ref a, .int st] ∧ H a = some (.tup (vb k)) ∧ ∀ H', Same H H' → Q (.int (Sp05.number ((k.drop st).take 8) : Nat)) H'
theorem scEight : FnScope ["key", "start", "word", "byte"] ["key", "start"] (defScope sEight) := ⟨rfl, rfl, rfl, by decide +kernel, rfl, by decide +kernel, by decide +kernel⟩
theorem ok_eight {f : Addr} {fd : FuncData} (F : Fun K "eight_bytes" "eight_bytes" sEight f fd) (T : Txt mg) : FnOk P w K mg base CX0 1 f fd ["key", "start"] spEight := by
  refine F.ok scEight (fun vs H Q E h => ?_) (fun cdv A outer s H vs Q E hr h => ?_)
  · obtain ⟨a, st, k, rfl, _⟩ := h
    rfl
  · obtain ⟨a, st, k, rfl, ha, q⟩ := h
    refine ⟨_, pss_cons (ps_set (i := 2) scEight.nd rfl (Or.inl rfl) pe_int)
      (pss_cons (ps_for PassesOwn.never rfl (pi_rvt rfl T.rev (pa_cons (pe_slice sl_any (pv 0) (po_some (pv 1)) (po_some (pe_op op_add (pv 1) pe_int))) pa_nil)) (pg_name (i := 3) scEight.nd rfl (Or.inl rfl))
        (pss_one (ps_set (i := 2) scEight.nd rfl (Or.inl rfl) (pe_op op_add (pe_op op_mul (pv 2) pe_int) (pv 3)))))
      (pss_one (ps_ret (pv 2)))), ?_⟩
    refine ⟨_, rfl, _, rfl, _, rfl, _, rfl, _, _, rfl, rfl, _, rfl, a, vb k, rfl, SqT.of ha, fun p H1 s1 hp => ?_⟩
    have hp' : SqT K H1 p (vb ((k.drop st).take 8)) := by
      have e := cut_vb k st
      rw [← e]
      exact hp
    generalize hsl : (k.drop st).take 8 = sl at *
    refine ⟨p, vb sl, rfl, hp', for_rvt (K := K) (a := p) (xs := vb sl) (fun i σ H' => ∃ v : Option V, σ = [some (.ref a), some (.int st), some (.int (Sp05.number (sl.drop (sl.length - i)) : Nat)), v] ∧ Same H H' ∧ SqT K H' p (vb sl))
      ⟨none, ?_, s1, hp'⟩ (fun i σ H' _ ⟨_, _, _, h⟩ => h) ?_ ?_⟩
    · rw [Nat.sub_zero, List.drop_length]
      rfl
    · rintro i x σ H' hi hx ⟨v, rfl, s2, hp2⟩
      rw [vb_length] at hi hx
      obtain ⟨b, hb, rfl⟩ : ∃ b, sl[sl.length - 1 - i]? = some b ∧ x = V.int (bI b) := by
        unfold vb at hx
        rw [List.getElem?_map] at hx
        cases e : sl[sl.length - 1 - i]? with
        | none => rw [e] at hx; cases hx
        | some b => rw [e] at hx; exact ⟨b, rfl, (Option.some.inj hx).symm⟩
      refine ⟨_, rfl, _, _, rfl, rfl, .inr (by decide), _, rfl, _, _, rfl, rfl, some (V.int (bI b)), ?_, s2, hp2⟩
      have e1 := number_drop hb
      have e2 : sl.length - 1 - i + 1 = sl.length - i := by omega
      have e3 : sl.length - 1 - i = sl.length - (i + 1) := by omega
      rw [e2, e3] at e1
      have e4 : (Sp05.number (sl.drop (sl.length - i)) : Int) * 256 + bI b = (Sp05.number (sl.drop (sl.length - (i + 1))) : Nat) := by
        rw [e1]
        unfold bI
        omega
      show [some (V.ref a), some (V.int st), some (V.int ((Sp05.number (sl.drop (sl.length - i)) : Int) * 256 + bI b)), some (V.int (bI b))] = _
      rw [e4]
    · rintro σ H' ⟨v, rfl, s2, hp2⟩
      rw [vb_length, Nat.sub_self, List.drop_zero]
      exact ⟨_, rfl, q H' s2⟩
end
end Hp
end
section
set_option Elab.async false
set_option linter.all false
set_option maxRecDepth 100000
set_option maxHeartbeats 2000000
namespace Hp
open PySem PySem.Spec PyProof.Rows L2 HpR
theorem bxK1 (n : Nat) : Builtin.bitXor (n : Int) 11400714819323198485 = ((n ^^^ Sp05.K1 : Nat) : Int) := bx n Sp05.K1
theorem bxK2 (n : Nat) : Builtin.bitXor (n : Int) 15485907386658061715 = ((n ^^^ Sp05.K2 : Nat) : Int) := bx n Sp05.K2
theorem bxK3 (n : Nat) : Builtin.bitXor (n : Int) 11562461410679940143 = ((n ^^^ Sp05.K3 : Nat) : Int) := bx n Sp05.K3
theorem h0_int (seed n : Nat) : Builtin.bitXor (seed : Int) (Builtin.bitAnd ((n : Int) * 11400714819323198485) 18446744073709551615) = ((seed ^^^ (n * Sp05.K1 % 2 ^ 64) : Nat) : Int) := by
  have e : (n : Int) * 11400714819323198485 = ((n * Sp05.K1 : Nat) : Int) := (Int.natCast_mul n Sp05.K1).symm
  rw [e, ba, bx]
section
variable {P : Program} {w : World} {K : PySem.W.Frag} {mg : Str → Option Value} {base : Heap}
def spMix : Sp := fun vs H Q _ => ∃ (seed : Nat) (a : Addr) (k : List UInt8), vs = [.int seed, .ref a] ∧ seed < 2 ^ 64 ∧ k.length ≤ 255 ∧ H a = some (.tup (vb k)) ∧ ∀ H', Same H H' → Q (.int (Sp05.mix seed k : Nat)) H'
theorem scMix : FnScope ["seed", "key", "h", "at"] ["seed", "key"] (defScope sMix) := ⟨rfl, rfl, rfl, by decide +kernel, rfl, by decide +kernel, by decide +kernel⟩
theorem ok_mix {f fF fR fE : Addr} {fd dF dR dE : FuncData} (F : Fun K "mix_of" "mix_of" sMix f fd) (T : Txt mg) (FF : Fn K mg "fold" fF dF ["a", "b"]) (FR : Fn K mg "rotated_left" fR dR ["word", "bits"]) (FE : Fn K mg "eight_bytes" fE dE ["key", "start"])
    (GF : FnOk P w K mg base CX0 1 fF dF ["a", "b"] spFold) (GR : FnOk P w K mg base CX0 1 fR dR ["word", "bits"] spRot) (GE : FnOk P w K mg base CX0 1 fE dE ["key", "start"] spEight) :
    FnOk P w K mg base CX0 2 f fd ["seed", "key"] spMix := by
  obtain ⟨t0, hlow⟩ := T.low
  obtain ⟨t1, hk1⟩ := T.k1
  obtain ⟨t2, hk2⟩ := T.k2
  obtain ⟨t3, hk3⟩ := T.k3
  obtain ⟨t4, hk4⟩ := T.k4
  refine F.ok scMix (fun vs H Q E h => ?_) (fun cdv A outer s H vs Q E hr h => ?_)
  · obtain ⟨seed, a, k, rfl, _⟩ := h
    rfl
  · obtain ⟨seed, a, k, rfl, hs, hl, ha, q⟩ := h
    have hn : k.length < 2 ^ 64 := by omega
    refine ⟨_, pss_cons (ps_set (i := 2) scMix.nd rfl (Or.inl rfl) (pe_op op_xor (pv 0) (pe_op op_and (pe_op op_mul (pe_callB call_len_seq (by rfl) T.len PySem.boot_len (pa_cons (pv 1) pa_nil)) (pe_glob rfl hk1 (relI _ _))) (pe_glob rfl hlow (relI _ _)))))
      (pss_cons (ps_set (i := 3) scMix.nd rfl (Or.inl rfl) pe_int)
      (pss_cons (ps_while PassesOwn.never (pt_cmpR op_ge (pe_op op_sub (pe_callB call_len_seq (by rfl) T.len PySem.boot_len (pa_cons (pv 1) pa_nil)) (pv 3)) pe_int (nomark _))
        (pss_cons (ps_set (i := 2) scMix.nd rfl (Or.inl rfl) (pe_call GF hr rfl FF.mg FF.kp FF.b .nil pass0
            (pa_cons (pe_op op_xor (pe_call GE hr rfl FE.mg FE.kp FE.b .nil pass0 (pa_cons (pv 1) (pa_cons (pv 3) pa_nil))) (pe_glob rfl hk2 (relI _ _)))
            (pa_cons (pe_op op_xor (pe_call GE hr rfl FE.mg FE.kp FE.b .nil pass0 (pa_cons (pv 1) (pa_cons (pe_op op_add (pv 3) pe_int) pa_nil))) (pv 2)) pa_nil))))
        (pss_one (ps_set (i := 3) scMix.nd rfl (Or.inl rfl) (pe_op op_add (pv 3) pe_int)))))
      (pss_cons (ps_if (pt_cmpR op_lt (pv 3) (pe_callB call_len_seq (by rfl) T.len PySem.boot_len (pa_cons (pv 1) pa_nil)) (nomark _))
        (pss_one (ps_set (i := 2) scMix.nd rfl (Or.inl rfl) (pe_call GF hr rfl FF.mg FF.kp FF.b .nil pass0
            (pa_cons (pe_op op_xor (pe_call GE hr rfl FE.mg FE.kp FE.b .nil pass0 (pa_cons (pv 1) (pa_cons (pv 3) pa_nil))) (pe_glob rfl hk3 (relI _ _)))
            (pa_cons (pe_op op_xor (pe_call GE hr rfl FE.mg FE.kp FE.b .nil pass0 (pa_cons (pv 1) (pa_cons (pe_op op_add (pv 3) pe_int) pa_nil))) (pv 2)) pa_nil))))) pss_nil)
      (pss_one (ps_ret (pe_call GF hr rfl FF.mg FF.kp FF.b .nil pass0
          (pa_cons (pe_op op_xor (pe_call GR hr rfl FR.mg FR.kp FR.b .nil pass0 (pa_cons (pv 2) (pa_cons pe_int pa_nil))) (pe_glob rfl hk1 (relI _ _))) (pa_cons (pe_glob rfl hk4 (relI _ _)) pa_nil)))))))), ?_⟩
    -- h = seed ^ ..; at = 0
    refine ⟨_, rfl, _, rfl, a, vb k, rfl, .inr (SqT.of ha), _, _, rfl, rfl, .inl (by rw [vb_length]; exact word_lt hn), _, _, rfl, rfl, _, _, rfl, rfl, ?_⟩
    -- the loop
    refine ⟨fun m σ H' => ∃ (j h : Nat), σ = [some (.int seed), some (.ref a), some (.int h), some (.int j)] ∧ Same H H' ∧ j ≤ k.length ∧ h < 2 ^ 64 ∧ goes (seed ^^^ (k.length * Sp05.K1 % 2 ^ 64)) k = goes h (k.drop j) ∧ m = k.length - j,
      ⟨_, 0, _, ?_, Same.refl H, Nat.zero_le _, xor_lt hs (Nat.mod_lt _ (by decide)), rfl, rfl⟩, ?_⟩
    · show [some (V.int seed), some (V.ref a), some (V.int (Builtin.bitXor (seed : Int) (Builtin.bitAnd (((vb k).length : Int) * 11400714819323198485) 18446744073709551615))), some (V.int 0)] = _
      rw [vb_length, h0_int]
      rfl
    · rintro m σ H' ⟨j, h, rfl, sm, hj, hh, eg, rfl⟩
      have ha' := sm _ _ ha
      refine ⟨_, rfl, a, vb k, rfl, .inr (SqT.of ha'), _, rfl, _, _, rfl, rfl, _, _, rfl, rfl, _, rfl, ite2 (fun c => ?_) (fun c => ?_)⟩
      · have c1 : (16 : Int) ≤ ((vb k).length : Int) - (j : Int) := of_decide_eq_true c
        rw [vb_length] at c1
        refine ⟨fun σ' H'' => ∃ m', m' < k.length - j ∧ _, fun _ _ z => z, ?_⟩
        refine ⟨_, rfl, _, rfl, a, j, k, rfl, ha', fun H1 s1 => ?_⟩
        have ha1 := s1 _ _ ha'
        refine ⟨_, _, rfl, rfl, _, rfl, _, rfl, _, _, rfl, rfl, a, j + 8, k, rfl, ha1, fun H2 s2 => ?_⟩
        refine ⟨_, rfl, _, _, rfl, rfl, Sp05.number ((k.drop j).take 8) ^^^ Sp05.K2, Sp05.number ((k.drop (j + 8)).take 8) ^^^ h, ?_, xor_lt (number8 _) K2_lt, xor_lt (number8 _) hh, ?_⟩
        · show [V.int (Builtin.bitXor ((Sp05.number ((k.drop j).take 8) : Nat) : Int) 15485907386658061715), V.int (Builtin.bitXor ((Sp05.number ((k.drop (j + 8)).take 8) : Nat) : Int) (h : Int))] = _
          rw [bxK2, bx]
        · refine ⟨_, rfl, _, _, rfl, rfl, k.length - (j + 16), by omega, j + 16, _, rfl, (sm.trans s1).trans s2, by omega, fold_lt (xor_lt (number8 _) K2_lt) (xor_lt (number8 _) hh), ?_, rfl⟩
          rw [eg, goes_16 h (k.drop j) (by rw [List.length_drop]; omega), List.drop_drop, List.drop_drop]
      · have c1 : ¬ (16 : Int) ≤ ((vb k).length : Int) - (j : Int) := fun z => c (decide_eq_true z)
        rw [vb_length] at c1
        have fin : ∀ (g : Nat) (H2 : Hp), Same H H2 → g < 2 ^ 64 → goes (seed ^^^ (k.length * Sp05.K1 % 2 ^ 64)) k = g →
            tRet (tCall spFold [] E0 (tCons (tOp (rI0 fun i j => .int (Builtin.bitXor i j)) (tCall spRot [] E0 (tCons (tVar 2) (tCons (tC (.int 23)) tNil))) (tC (.int 11400714819323198485))) (tCons (tC (.int 16646288086500911323)) tNil)))
              { nx := fun _ H' => Q .non H', rt := Q } [some (.int seed), some (.ref a), some (.int g), some (.int j)] H2 := by
          intro g H2 s2 hg e
          refine ⟨_, rfl, g, rfl, hg, _, _, rfl, rfl, Sp05.turned g ^^^ Sp05.K1, Sp05.K4, ?_, xor_lt (turned_lt hg) K1_lt, K4_lt, ?_⟩
          · show [V.int (Builtin.bitXor ((Sp05.turned g : Nat) : Int) 11400714819323198485), V.int 16646288086500911323] = _
            rw [bxK1]
            rfl
          · have e2 := mix_eq seed k
            rw [e] at e2
            rw [← e2]
            exact q H2 s2
        refine ⟨_, rfl, _, rfl, a, vb k, rfl, .inr (SqT.of ha'), _, _, rfl, rfl, _, rfl, ite2 (fun d => ?_) (fun d => ?_)⟩
        · have d1 : (j : Int) < ((vb k).length : Int) := of_decide_eq_true d
          rw [vb_length] at d1
          refine ⟨_, rfl, _, rfl, a, j, k, rfl, ha', fun H1 s1 => ?_⟩
          have ha1 := s1 _ _ ha'
          refine ⟨_, _, rfl, rfl, _, rfl, _, rfl, _, _, rfl, rfl, a, j + 8, k, rfl, ha1, fun H2 s2 => ?_⟩
          refine ⟨_, rfl, _, _, rfl, rfl, Sp05.number ((k.drop j).take 8) ^^^ Sp05.K3, Sp05.number ((k.drop (j + 8)).take 8) ^^^ h, ?_, xor_lt (number8 _) K3_lt, xor_lt (number8 _) hh, ?_⟩
          · show [V.int (Builtin.bitXor ((Sp05.number ((k.drop j).take 8) : Nat) : Int) 11562461410679940143), V.int (Builtin.bitXor ((Sp05.number ((k.drop (j + 8)).take 8) : Nat) : Int) (h : Int))] = _
            rw [bxK3, bx]
          · refine fin _ H2 ((sm.trans s1).trans s2) (fold_lt (xor_lt (number8 _) K3_lt) (xor_lt (number8 _) hh)) ?_
            have ne : k.drop j ≠ [] := by
              intro z
              have := congrArg List.length z
              rw [List.length_drop] at this
              simp at this
              omega
            rw [eg, goes_last h (k.drop j) ne (by rw [List.length_drop]; omega), List.drop_drop]
        · have d1 : ¬ (j : Int) < ((vb k).length : Int) := fun z => d (decide_eq_true z)
          rw [vb_length] at d1
          refine fin h H' sm hh ?_
          rw [eg, List.drop_of_length_le (by omega), goes_nil]
end
end Hp
end
section
set_option Elab.async false
set_option linter.all false
set_option maxRecDepth 100000
set_option maxHeartbeats 2000000
namespace Hp
open PySem PySem.Spec PyProof.Rows L2 HpR
/-! ### Reader -/
abbrev sRI : Stmt := inClass (top 28) 0
abbrev sRMore : Stmt := inClass (top 28) 1
abbrev sRNum : Stmt := inClass (top 28) 2
abbrev sRRow : Stmt := inClass (top 28) 3
def rf (a : Addr) (n : Nat) : List (Str × V) := [("numbers", .ref a), ("at", .int n)]
theorem rf_numbers (a : Addr) (n : Nat) : (rf a n).lookup ("numbers" : Str) = some (.ref a) := rfl
theorem rf_at (a : Addr) (n : Nat) : (rf a n).lookup ("at" : Str) = some (.int n) := rfl
theorem rf_put (a : Addr) (n : Nat) (m : Nat) : putF "at" (.int (m : Int)) (rf a n) = rf a m := rfl
theorem rf_no (a : Addr) (n : Nat) {m : Str} (h1 : (m == ("numbers" : Str)) = false) (h2 : (m == ("at" : Str)) = false) : (rf a n).lookup m = none := by
  unfold rf
  simp only [List.lookup, h1, h2]
/-- a Reader at r, over the list at a, at the place n -/
def RdAt (C : Addr) (H : Hp) (r a : Addr) (n : Nat) : Prop := ∃ dx, H r = some (.ins C dx (rf a n))
/-- all but what stands at p is as it was -/
def But (p : Addr) (H H' : Hp) : Prop := ∀ b o, H b = some o → b ≠ p → H' b = some o
theorem But.trans {p : Addr} {H H1 H2 : Hp} (a : But p H H1) (b : But p H1 H2) : But p H H2 := fun c o e n => b c o (a c o e n) n
theorem Same.but {p : Addr} {H H' : Hp} (h : Same H H') : But p H H' := fun b o e _ => h b o e
/-- a list that is read stays, where an instance changes -/
theorem But.seq {K : PySem.W.Frag} {p C dx : Addr} {fs : List (Str × V)} {H H' : Hp} {a : Addr} {xs : List V} (e : But p H H') (hp : H p = some (.ins C dx fs)) (h : SqL K H a xs) : SqL K H' a xs := by
  rcases h with (h | ⟨o, h⟩) | h
  · exact .inl (.inl (e _ _ h (ne_of h hp (fun z => nomatch z))))
  · exact .inl (.inr ⟨o, e _ _ h (ne_of h hp (fun z => nomatch z))⟩)
  · exact .inr h
/-- a method -/
structure Md (K : PySem.W.Frag) (C : Addr) (m : Str) (f : Addr) (fd : FuncData) (ps : List Str) : Prop where
  me : Meth K C m f
  b : Binds K fd ps []
section
variable {P : Program} {w : World} {K : PySem.W.Frag} {mg : Str → Option Value} {base : Heap}
structure RTxt (K : PySem.W.Frag) (C : Addr) : Prop where
  cl : Cls K C
  nN : NoAttr K C "numbers"
  nA : NoAttr K C "at"
def spRI (C : Addr) : Sp := fun vs H Q _ => ∃ (p dx a : Addr), vs = [.ref p, .ref a] ∧ H p = some (.ins C dx []) ∧ ∀ H', RdAt C H' p a 0 → But p H H' → Q .non H'
theorem scRI : FnScope ["self", "numbers"] ["self", "numbers"] (defScope sRI) := ⟨rfl, rfl, rfl, by decide +kernel, rfl, by decide +kernel, by decide +kernel⟩
theorem ok_ri {f C : Addr} {fd : FuncData} (F : Fun K "__init__" "Reader.__init__" sRI f fd) (T : RTxt K C) : FnOk P w K mg base CX0 1 f fd ["self", "numbers"] (spRI C) := by
  refine F.ok scRI (fun vs H Q E h => ?_) (fun cdv A outer s H vs Q E hr h => ?_)
  · obtain ⟨p, dx, a, rfl, _⟩ := h
    rfl
  · obtain ⟨p, dx, a, rfl, hp, k⟩ := h
    refine ⟨_, pss_cons (ps_fld (pv 0) (pv 1) rfl) (pss_one (ps_fld (pv 0) pe_int rfl)), ?_⟩
    refine ⟨_, rfl, _, rfl, p, C, dx, [], rfl, hp, T.cl, T.nN, (by show 0 < 1000; decide), ?_⟩
    refine ⟨_, rfl, p, C, dx, _, rfl, upd_same, T.cl, T.nA, (by show 1 < 1000; decide), ?_⟩
    refine k _ ⟨dx, upd_same⟩ fun b o e n => ?_
    rw [upd_ne n, upd_ne n]
    exact e
def spRMore (K : PySem.W.Frag) (C : Addr) : Sp := fun vs H Q _ => ∃ (r a : Addr) (n : Nat) (ns : List Int), vs = [.ref r] ∧ RdAt C H r a n ∧ SqL K H a (ns.map V.int) ∧ Q (.bl (decide (n < ns.length))) H
theorem scRMore : FnScope ["self"] ["self"] (defScope sRMore) := ⟨rfl, rfl, rfl, by decide +kernel, rfl, by decide +kernel, by decide +kernel⟩
theorem ok_rmore {f C : Addr} {fd : FuncData} (F : Fun K "more" "Reader.more" sRMore f fd) (T : RTxt K C) (hlen : mg "len" = none) : FnOk P w K mg base CX0 1 f fd ["self"] (spRMore K C) := by
  refine F.ok scRMore (fun vs H Q E h => ?_) (fun cdv A outer s H vs Q E hr h => ?_)
  · obtain ⟨r, a, n, ns, rfl, _⟩ := h
    rfl
  · obtain ⟨r, a, n, ns, rfl, ⟨dx, hr'⟩, hS, k⟩ := h
    refine ⟨_, pss_one (ps_ret (pe_cmpR op_lt (pe_fld (pv 0) rfl) (pe_callB call_len_seq (by rfl) hlen PySem.boot_len (pa_cons (pe_fld (pv 0) rfl) pa_nil)) (nomark _))), ?_⟩
    refine ⟨_, rfl, r, C, dx, _, _, rfl, hr', T.cl, T.nA, rf_at a n, _, rfl, r, C, dx, _, _, rfl, hr', T.cl, T.nN, rf_numbers a n, a, _, rfl, .inl hS, _, _, rfl, rfl, ?_⟩
    have e : decide ((n : Int) < ((ns.map V.int).length : Int)) = decide (n < ns.length) := by
      rw [List.length_map]
      exact decide_eq_decide.mpr (by omega)
    show Q (.bl (decide ((n : Int) < ((ns.map V.int).length : Int)))) H
    rw [e]
    exact k
def spRNum (K : PySem.W.Frag) (C : Addr) : Sp := fun vs H Q _ => ∃ (r a : Addr) (n : Nat) (ns : List Int) (z : Int), vs = [.ref r] ∧ RdAt C H r a n ∧ SqL K H a (ns.map V.int) ∧ ns[n]? = some z ∧ ∀ H', RdAt C H' r a (n + 1) → But r H H' → Q (.int z) H'
theorem scRNum : FnScope ["self", "found"] ["self"] (defScope sRNum) := ⟨rfl, rfl, rfl, by decide +kernel, rfl, by decide +kernel, by decide +kernel⟩
theorem ok_rnum {f C : Addr} {fd : FuncData} (F : Fun K "number" "Reader.number" sRNum f fd) (T : RTxt K C) : FnOk P w K mg base CX0 1 f fd ["self"] (spRNum K C) := by
  refine F.ok scRNum (fun vs H Q E h => ?_) (fun cdv A outer s H vs Q E hr h => ?_)
  · obtain ⟨r, a, n, ns, z, rfl, _⟩ := h
    rfl
  · obtain ⟨r, a, n, ns, z, rfl, ⟨dx, hr'⟩, hS, hz, k⟩ := h
    refine ⟨_, pss_cons (ps_set (i := 1) scRNum.nd rfl (Or.inl rfl) (pe_ix ix_list (pe_fld (pv 0) rfl) (pe_fld (pv 0) rfl) (fun _ _ => rfl)))
      (pss_cons (ps_fld (pv 0) (pe_op op_add (pe_fld (pv 0) rfl) pe_int) rfl) (pss_one (ps_ret (pv 1)))), ?_⟩
    refine ⟨_, rfl, r, C, dx, _, _, rfl, hr', T.cl, T.nN, rf_numbers a n, _, rfl, r, C, dx, _, _, rfl, hr', T.cl, T.nA, rf_at a n, a, _, _, V.int z, rfl, rfl, hS, atI_nat (by rw [List.getElem?_map, hz]; rfl), ?_⟩
    refine ⟨_, rfl, r, C, dx, _, _, rfl, hr', T.cl, T.nA, rf_at a n, _, _, rfl, rfl, _, rfl, r, C, dx, _, rfl, hr', T.cl, T.nA, (by show 2 < 1000; decide), ?_⟩
    refine ⟨_, rfl, ?_⟩
    exact k _ ⟨dx, upd_same⟩ fun b o e m => by rw [upd_ne m]; exact e
def spRRow (K : PySem.W.Frag) (C : Addr) : Sp := fun vs H Q _ => ∃ (r a : Addr) (n : Nat) (ns ks t : List Int), vs = [.ref r] ∧ RdAt C H r a n ∧ SqL K H a (ns.map V.int) ∧ ns.drop n = (ks.length : Int) :: (ks ++ t) ∧
  ∀ H' p, RdAt C H' r a (n + 1 + ks.length) → But r H H' → H p = none → H' p = some (.tup (ks.map V.int)) → Q (.ref p) H'
theorem scRRow : FnScope ["self", "size", "start"] ["self"] (defScope sRRow) := ⟨rfl, rfl, rfl, by decide +kernel, rfl, by decide +kernel, by decide +kernel⟩
theorem cut_row {ns ks t : List Int} {n : Nat} (h : ns.drop n = (ks.length : Int) :: (ks ++ t)) : cutV (ns.map V.int) (some ((n + 1 : Nat) : Int)) (some ((n + 1 + ks.length : Nat) : Int)) = ks.map V.int := by
  have hl := congrArg List.length h
  rw [List.length_drop, List.length_cons, List.length_append] at hl
  have e : ns.drop (n + 1) = ks ++ t := by
    have := congrArg List.tail h
    rw [List.tail_drop] at this
    exact this
  unfold cutV
  rw [HT.sIx_nat, HT.sIx_nat, List.length_map, Nat.min_eq_left (by omega), Nat.min_eq_left (by omega), Nat.add_sub_cancel_left, ← List.map_drop, ← List.map_take, e, List.take_left']
  rfl
theorem boot_tup : bootBuiltins "tuple" = some (.type "tuple") := by decide +kernel
theorem ok_rrow {f C fN : Addr} {fd dN : FuncData} (F : Fun K "row" "Reader.row" sRRow f fd) (T : RTxt K C) (htup : mg "tuple" = none) (MN : Md K C "number" fN dN ["self"]) (GN : FnOk P w K mg base CX0 1 fN dN ["self"] (spRNum K C)) :
    FnOk P w K mg base CX0 2 f fd ["self"] (spRRow K C) := by
  refine F.ok scRRow (fun vs H Q E h => ?_) (fun cdv A outer s H vs Q E hr h => ?_)
  · obtain ⟨r, a, n, ns, ks, t, rfl, _⟩ := h
    rfl
  · obtain ⟨r, a, n, ns, ks, t, rfl, hR, hS, hd, k⟩ := h
    obtain ⟨dx, hr'⟩ := hR
    have hz : ns[n]? = some (ks.length : Int) := by
      have := congrArg (fun l => l[0]?) hd
      rw [List.getElem?_drop] at this
      exact this
    refine ⟨_, pss_cons (ps_set (i := 1) scRRow.nd rfl (Or.inl rfl) (pe_meth0 (pv 0) T.cl MN.me GN hr MN.b .nil pass0))
      (pss_cons (ps_set (i := 2) scRRow.nd rfl (Or.inl rfl) (pe_fld (pv 0) rfl))
      (pss_cons (ps_fld (pv 0) (pe_op op_add (pv 2) (pv 1)) rfl)
      (pss_one (ps_ret (pe_callTy call_tuple_of (by rfl) htup boot_tup (pa_cons (pe_slice sl_list (pe_fld (pv 0) rfl) (po_some (pv 2)) (po_some (pe_fld (pv 0) rfl))) pa_nil)))))), ?_⟩
    refine ⟨_, rfl, r, dx, _, rfl, hr', rf_no a n (by decide +kernel) (by decide +kernel), r, a, n, ns, _, rfl, ⟨dx, hr'⟩, hS, hz, fun H1 hR1 b1 => ?_⟩
    obtain ⟨dx1, hr1⟩ := hR1
    refine ⟨_, rfl, r, C, dx1, _, _, rfl, hr1, T.cl, T.nA, rf_at a (n + 1), ?_⟩
    refine ⟨_, rfl, _, rfl, _, _, rfl, rfl, _, rfl, r, C, dx1, _, rfl, hr1, T.cl, T.nA, (by show 2 < 1000; decide), ?_⟩
    have b2 : But r H (upd H1 r (.ins C dx1 (putF "at" (V.int (((n + 1 : Nat) : Int) + (ks.length : Int))) (rf a (n + 1))))) := fun b o e m => by
      rw [upd_ne m]
      exact b1 b o e m
    have hS2 := b2.seq hr' hS
    refine ⟨_, rfl, r, C, dx1, _, _, rfl, upd_same, T.cl, T.nN, rf_numbers a (n + 1 + ks.length), _, rfl, _, rfl, _, rfl, r, C, dx1, _, _, rfl, upd_same, T.cl, T.nA, rf_at a (n + 1 + ks.length), _, rfl, a, _, rfl, hS2, fun l hl => ?_⟩
    have ec := cut_row hd
    have s3 := same_new (o := .lst (cutV (ns.map V.int) (some ((n + 1 : Nat) : Int)) (some ((n + 1 + ks.length : Nat) : Int)))) hl
    refine ⟨l, _, rfl, .inl ⟨SqL.of upd_same, fun p hp => ?_⟩⟩
    have s4 := same_new (o := .tup (cutV (ns.map V.int) (some ((n + 1 : Nat) : Int)) (some ((n + 1 + ks.length : Nat) : Int)))) hp
    have hpn : H p = none := by
      cases e : H p with
      | none => rfl
      | some o =>
        by_cases epr : p = r
        · subst epr
          rw [s3 _ _ upd_same] at hp
          cases hp
        · rw [s3 _ _ (b2 _ _ e epr)] at hp
          cases hp
    refine k _ p ⟨dx1, s4 _ _ (s3 _ _ upd_same)⟩ (fun b o e m => s4 _ _ (s3 _ _ (b2 _ _ e m))) hpn ?_
    rw [upd_same, ec]
end
end Hp
end
section
set_option Elab.async false
set_option linter.all false
set_option maxRecDepth 100000
set_option maxHeartbeats 2000000
namespace Hp
open PySem PySem.Spec PyProof.Rows L2 HpR
/-! ### Table -/
abbrev sTI : Stmt := inClass (top 27) 0
abbrev sTInit : Stmt := inClass (top 27) 1
abbrev sTMix : Stmt := inClass (top 27) 2
abbrev sTPut : Stmt := inClass (top 27) 3
abbrev sTGet : Stmt := inClass (top 27) 4
def tf (a n : Nat) (d : Addr) : List (Str × V) := [("seed", .int a), ("slots", .int n), ("kept", .ref d)]
theorem tf_seed (a n : Nat) (d : Addr) : (tf a n d).lookup ("seed" : Str) = some (.int a) := rfl
theorem tf_slots (a n : Nat) (d : Addr) : (tf a n d).lookup ("slots" : Str) = some (.int n) := rfl
theorem tf_kept (a n : Nat) (d : Addr) : (tf a n d).lookup ("kept" : Str) = some (.ref d) := rfl
theorem tf_no (a n : Nat) (d : Addr) {m : Str} (h1 : (m == ("seed" : Str)) = false) (h2 : (m == ("slots" : Str)) = false) (h3 : (m == ("kept" : Str)) = false) : (tf a n d).lookup m = none := by
  unfold tf
  simp only [List.lookup, h1, h2, h3]
/-- the table t stands at p -/
def TabAt (C : Addr) (H : Hp) (p : Addr) (t : Sp05.Abs) : Prop := ∃ dx d, H p = some (.ins C dx (tf t.seed t.slots d)) ∧ H d = some (.dT (enc t.keys))
/-- all but the table at p and the dicts is as it was -/
def Kept (p : Addr) (H H' : Hp) : Prop := ∀ b o, H b = some o → b ≠ p → (∀ kvs, o ≠ .dT kvs) → H' b = some o
theorem Kept.trans {p : Addr} {H H1 H2 : Hp} (a : Kept p H H1) (b : Kept p H1 H2) : Kept p H H2 := fun c o e n k => b c o (a c o e n k) n k
theorem Same.kept {p : Addr} {H H' : Hp} (h : Same H H') : Kept p H H' := fun b o e _ _ => h b o e
theorem But.kept {p : Addr} {H H' : Hp} (h : But p H H') : Kept p H H' := fun b o e n _ => h b o e n
theorem Kept.seq {K : PySem.W.Frag} {p C dx : Addr} {fs : List (Str × V)} {H H' : Hp} {a : Addr} {xs : List V} (e : Kept p H H') (hp : H p = some (.ins C dx fs)) (h : SqL K H a xs) : SqL K H' a xs := by
  rcases h with (h | ⟨o, h⟩) | h
  · exact .inl (.inl (e _ _ h (ne_of h hp (fun z => nomatch z)) (fun _ z => nomatch z)))
  · exact .inl (.inr ⟨o, e _ _ h (ne_of h hp (fun z => nomatch z)) (fun _ z => nomatch z)⟩)
  · exact .inr h
theorem Same.tab {C : Addr} {H H' : Hp} {p : Addr} {t : Sp05.Abs} (s : Same H H') (h : TabAt C H p t) : TabAt C H' p t := by
  obtain ⟨dx, d, h1, h2⟩ := h
  exact ⟨dx, d, s _ _ h1, s _ _ h2⟩
structure TTxt (K : PySem.W.Frag) (C : Addr) : Prop where
  cl : Cls K C
  nE : NoAttr K C "seed"
  nO : NoAttr K C "slots"
  nK : NoAttr K C "kept"
/-- the answer of a method: a new list at l, the table t then -/
def Out (C p : Addr) (H : Hp) (t : Sp05.Abs) (out : List Int) (Q : VK) : Prop := ∀ H' l, TabAt C H' p t → Kept p H H' → H l = none → H' l = some (.lst (out.map V.int)) → Q (.ref l) H'
section
variable {P : Program} {w : World} {K : PySem.W.Frag} {mg : Str → Option Value} {base : Heap}
def spTI (C : Addr) : Sp := fun vs H Q _ => ∃ (p dx : Addr), vs = [.ref p] ∧ H p = some (.ins C dx []) ∧ ∀ H', TabAt C H' p ⟨0, 0, []⟩ → But p H H' → Q .non H'
theorem scTI : FnScope ["self"] ["self"] (defScope sTI) := ⟨rfl, rfl, rfl, by decide +kernel, rfl, by decide +kernel, by decide +kernel⟩
theorem ok_ti {f C : Addr} {fd : FuncData} (F : Fun K "__init__" "Table.__init__" sTI f fd) (T : TTxt K C) : FnOk P w K mg base CX0 1 f fd ["self"] (spTI C) := by
  refine F.ok scTI (fun vs H Q E h => ?_) (fun cdv A outer s H vs Q E hr h => ?_)
  · obtain ⟨p, dx, rfl, _⟩ := h
    rfl
  · obtain ⟨p, dx, rfl, hp, k⟩ := h
    refine ⟨_, pss_cons (ps_fld (pv 0) pe_int rfl) (pss_cons (ps_fld (pv 0) pe_int rfl) (pss_one (ps_fld (pv 0) pe_dnewT rfl))), ?_⟩
    refine ⟨_, rfl, p, C, dx, [], rfl, hp, T.cl, T.nE, (by show 0 < 1000; decide), ?_⟩
    refine ⟨_, rfl, p, C, dx, _, rfl, upd_same, T.cl, T.nO, (by show 1 < 1000; decide), fun d hd => ?_⟩
    refine ⟨_, rfl, p, C, dx, _, rfl, (by rw [upd_ne (ne_of_none upd_same hd)]; exact upd_same), T.cl, T.nK, (by show 2 < 1000; decide), ?_⟩
    have hdp : d ≠ p := fun z => by subst z; rw [upd_same] at hd; cases hd
    refine k _ ⟨dx, d, upd_same, ?_⟩ fun b o e n => ?_
    · rw [upd_ne hdp, upd_same]
      rfl
    · have hb : b ≠ d := fun z => by subst z; rw [upd_ne n, upd_ne n, e] at hd; cases hd
      rw [upd_ne n, upd_ne hb, upd_ne n, upd_ne n]
      exact e
def spTInit (C : Addr) : Sp := fun vs H Q _ => ∃ (p : Addr) (t : Sp05.Abs) (seed : Nat) (n : Int), vs = [.ref p, .int seed, .int n] ∧ TabAt C H p t ∧
  (Sp05.many n = true → Out C p H ⟨seed, n.toNat, []⟩ [0, 0] Q) ∧ (¬ Sp05.many n = true → Out C p H t [-1, 0] Q)
theorem scTInit : FnScope ["self", "seed", "slots"] ["self", "seed", "slots"] (defScope sTInit) := ⟨rfl, rfl, rfl, by decide +kernel, rfl, by decide +kernel, by decide +kernel⟩
theorem ok_tinit {f C fR fI : Addr} {fd dR dI : FuncData} (F : Fun K "init" "Table.init" sTInit f fd) (T : TTxt K C) (FI : Fn K mg "is_number_of_places" fI dI ["slots"]) (GI : FnOk P w K mg base CX0 1 fI dI ["slots"] spIs) (FR : Fn K mg "refusal" fR dR []) (GR : FnOk P w K mg base CX0 1 fR dR [] spRef) :
    FnOk P w K mg base CX0 2 f fd ["self", "seed", "slots"] (spTInit C) := by
  refine F.ok scTInit (fun vs H Q E h => ?_) (fun cdv A outer s H vs Q E hr h => ?_)
  · obtain ⟨p, t, seed, n, rfl, _⟩ := h
    rfl
  · obtain ⟨p, t, seed, n, rfl, hT, k1, k2⟩ := h
    have hT0 := hT
    obtain ⟨dx, d, hp, hd⟩ := hT
    refine ⟨_, pss_cons (ps_if (pt_not (pt_val (pe_call GI hr rfl FI.mg FI.kp FI.b .nil pass0 (pa_cons (pv 2) pa_nil))))
        (pss_one (ps_ret (pe_call0 GR hr rfl FR.mg FR.kp FR.b .nil pass0))) pss_nil)
      (pss_cons (ps_fld (pv 0) (pv 1) rfl) (pss_cons (ps_fld (pv 0) (pv 2) rfl) (pss_cons (ps_fld (pv 0) pe_dnewT rfl) (pss_one (ps_ret (pe_lst (pa_cons pe_int (pa_cons pe_int pa_nil)))))))), ?_⟩
    have refuse : ¬ Sp05.many n = true → tRet (tCall spRef [] E0 tNil) { nx := fun _ H' => Q .non H', rt := Q } [some (.ref p), some (.int seed), some (.int n)] H := fun hm =>
      ⟨rfl, fun l hl => k2 hm _ l (Same.tab (same_new hl) hT0) (Same.kept (same_new hl)) hl upd_same⟩
    refine ⟨_, rfl, n, rfl, _, rfl, ite2 (fun c => ?_) (fun c => ?_)⟩
    · exact refuse (by intro z; rw [z] at c; cases c)
    · have hm : Sp05.many n = true := by
        cases e : Sp05.many n with
        | true => rfl
        | false => rw [e] at c; exact absurd rfl c
      have hmn := many_iff.mp hm
      have hn : ((n.toNat : Nat) : Int) = n := Int.toNat_of_nonneg (by omega)
      refine ⟨_, rfl, _, rfl, p, C, dx, _, rfl, hp, T.cl, T.nE, (by show 3 < 1000; decide), ?_⟩
      refine ⟨_, rfl, _, rfl, p, C, dx, _, rfl, upd_same, T.cl, T.nO, (by show 3 < 1000; decide), fun d' hd' => ?_⟩
      refine ⟨_, rfl, p, C, dx, _, rfl, (by rw [upd_ne (ne_of_none upd_same hd')]; exact upd_same), T.cl, T.nK, (by show 3 < 1000; decide), ?_⟩
      refine ⟨(by show 2 ≤ sizeLine; decide), fun l hl => ?_⟩
      have e3 : putF "kept" (V.ref d') (putF "slots" (V.int n) (putF "seed" (V.int seed) (tf t.seed t.slots d))) = tf seed n.toNat d' := by
        show [(("seed" : Str), V.int seed), ("slots", V.int n), ("kept", V.ref d')] = [(("seed" : Str), V.int seed), ("slots", V.int (n.toNat : Nat)), ("kept", V.ref d')]
        rw [hn]
      have hdp : d' ≠ p := fun z => by subst z; rw [upd_same] at hd'; cases hd'
      have fr : ∀ b o, H b = some o → b ≠ p → b ≠ d' := fun b o e n z => by subst z; rw [upd_ne n, upd_ne n, e] at hd'; cases hd'
      rw [e3] at hl ⊢
      have hlp : l ≠ p := fun z => by subst z; rw [upd_same] at hl; cases hl
      have hld : l ≠ d' := fun z => by subst z; rw [upd_ne hdp, upd_same] at hl; cases hl
      have hln : H l = none := by rw [upd_ne hlp, upd_ne hld, upd_ne hlp, upd_ne hlp] at hl; exact hl
      refine k1 hm _ l ⟨dx, d', ?_, ?_⟩ (fun b o e nb _ => ?_) hln upd_same
      · rw [upd_ne hlp.symm, upd_same]
      · rw [upd_ne hld.symm, upd_ne hdp, upd_same]
        rfl
      · have hb := fr b o e nb
        have hbl : b ≠ l := fun z => by subst z; rw [hln] at e; cases e
        rw [upd_ne hbl, upd_ne nb, upd_ne hb, upd_ne nb, upd_ne nb]
        exact e
def spTMix (C : Addr) : Sp := fun vs H Q _ => ∃ (p a : Addr) (t : Sp05.Abs) (k : List UInt8), vs = [.ref p, .ref a] ∧ TabAt C H p t ∧ t.seed < 2 ^ 64 ∧ k.length ≤ 255 ∧ H a = some (.tup (vb k)) ∧ Out C p H t [0, (Sp05.mix t.seed k : Nat)] Q
theorem scTMix : FnScope ["self", "key"] ["self", "key"] (defScope sTMix) := ⟨rfl, rfl, rfl, by decide +kernel, rfl, by decide +kernel, by decide +kernel⟩
theorem ok_tmix {f C fM : Addr} {fd dM : FuncData} (F : Fun K "mix" "Table.mix" sTMix f fd) (T : TTxt K C) (FM : Fn K mg "mix_of" fM dM ["seed", "key"]) (GM : FnOk P w K mg base CX0 2 fM dM ["seed", "key"] spMix) :
    FnOk P w K mg base CX0 3 f fd ["self", "key"] (spTMix C) := by
  refine F.ok scTMix (fun vs H Q E h => ?_) (fun cdv A outer s H vs Q E hr h => ?_)
  · obtain ⟨p, a, t, k, rfl, _⟩ := h
    rfl
  · obtain ⟨p, a, t, k, rfl, hT, hs, hl, ha, q⟩ := h
    have hT0 := hT
    obtain ⟨dx, d, hp, hd⟩ := hT
    refine ⟨_, pss_one (ps_ret (pe_lst (pa_cons pe_int (pa_cons (pe_call GM hr rfl FM.mg FM.kp FM.b .nil pass0 (pa_cons (pe_fld (pv 0) rfl) (pa_cons (pv 1) pa_nil))) pa_nil)))), ?_⟩
    refine ⟨_, rfl, p, C, dx, _, _, rfl, hp, T.cl, T.nE, tf_seed _ _ _, _, rfl, t.seed, a, k, rfl, hs, hl, ha, fun H1 s1 => ⟨(by show 2 ≤ sizeLine; decide), fun l hl => ?_⟩⟩
    exact q _ l (Same.tab (s1.trans (same_new hl)) hT0) (Same.kept (s1.trans (same_new hl))) (s1.free hl) upd_same
def spTPut (C : Addr) : Sp := fun vs H Q _ => ∃ (p a : Addr) (t : Sp05.Abs) (k : List UInt8) (v : Nat), vs = [.ref p, .ref a, .int v] ∧ TabAt C H p t ∧ t.keys.length ≤ 128 ∧ H a = some (.tup (vb k)) ∧
  (∀ o, valOf t.keys k = some o → Out C p H { t with keys := t.keys.map fun x => if x.1 == k then (k, v) else x } [0, (o : Nat)] Q) ∧
  (valOf t.keys k = none → (t.slots ≤ t.keys.length → Out C p H t [-1, 0] Q) ∧ (t.keys.length < t.slots → Out C p H { t with keys := t.keys ++ [(k, v)] } [1, 0] Q))
theorem scTPut : FnScope ["self", "key", "value", "before"] ["self", "key", "value"] (defScope sTPut) := ⟨rfl, rfl, rfl, by decide +kernel, rfl, by decide +kernel, by decide +kernel⟩
/-- the table with other pairs, and a new list -/
theorem tab_set {C p dx d : Addr} {H : Hp} {t : Sp05.Abs} {l' : List (Sp05.Key × Nat)} (hp : H p = some (.ins C dx (tf t.seed t.slots d))) (hd : H d = some (.dT (enc t.keys))) {l : Addr} {o : HO} (hl : upd H d (.dT (enc l')) l = none) :
    TabAt C (upd (upd H d (.dT (enc l'))) l o) p { t with keys := l' } ∧ Kept p H (upd (upd H d (.dT (enc l'))) l o) ∧ H l = none := by
  have hpd : p ≠ d := ne_of hp hd (fun z => nomatch z)
  have hld : l ≠ d := fun z => by subst z; rw [upd_same] at hl; cases hl
  have hln : H l = none := by rw [upd_ne hld] at hl; exact hl
  have hpl : p ≠ l := ne_of_none hp hln
  refine ⟨⟨dx, d, ?_, ?_⟩, fun b ob e _ hk => ?_, hln⟩
  · rw [upd_ne hpl, upd_ne hpd]
    exact hp
  · rw [upd_ne hld.symm, upd_same]
  · have hbd : b ≠ d := fun z => by
      subst z
      rw [hd] at e
      exact hk _ (Option.some.inj e).symm
    rw [upd_ne (ne_of_none e hln), upd_ne hbd]
    exact e
theorem ok_tput {f C fR : Addr} {fd dR : FuncData} (F : Fun K "put" "Table.put" sTPut f fd) (T : TTxt K C) (hlen : mg "len" = none) (FR : Fn K mg "refusal" fR dR []) (GR : FnOk P w K mg base CX0 1 fR dR [] spRef) :
    FnOk P w K mg base CX0 2 f fd ["self", "key", "value"] (spTPut C) := by
  refine F.ok scTPut (fun vs H Q E h => ?_) (fun cdv A outer s H vs Q E hr h => ?_)
  · obtain ⟨p, a, t, k, v, rfl, _⟩ := h
    rfl
  · obtain ⟨p, a, t, k, v, rfl, hT, h128, ha, q1, q2⟩ := h
    have hT0 := hT
    obtain ⟨dx, d, hp, hd⟩ := hT
    have hu := hu_of hr
    have hk : H a = some (.tup ((kk k).map kV)) := by rw [kk_vb]; exact ha
    have hsz : (enc t.keys).length < sizeLine := by rw [enc_length, sizeLine_eq]; omega
    refine ⟨_, pss_cons (ps_if (pt_cmp (pc_din hu (pv 1) (pe_fld (pv 0) rfl)))
        (pss_cons (ps_set (i := 3) scTPut.nd rfl (Or.inl rfl) (pe_dget hu (pe_fld (pv 0) rfl) (pv 1) (fun _ _ => rfl)))
        (pss_cons (ps_dput hu (pe_fld (pv 0) rfl) (pv 1) (pv 2) rfl)
        (pss_one (ps_ret (pe_lst (pa_cons pe_int (pa_cons (pv 3) pa_nil))))))) pss_nil)
      (pss_cons (ps_if (pt_cmpR op_ge (pe_callB call_lenT (by rfl) hlen PySem.boot_len (pa_cons (pe_fld (pv 0) rfl) pa_nil)) (pe_fld (pv 0) rfl) (nomark _))
        (pss_one (ps_ret (pe_call0 GR hr rfl FR.mg FR.kp FR.b .nil pass0))) pss_nil)
      (pss_cons (ps_dput hu (pe_fld (pv 0) rfl) (pv 1) (pv 2) rfl)
      (pss_one (ps_ret (pe_lst (pa_cons pe_int (pa_cons pe_int pa_nil))))))), ?_⟩
    refine ⟨_, rfl, _, rfl, p, C, dx, _, _, rfl, hp, T.cl, T.nK, tf_kept _ _ _, d, _, rfl, DGet.t hd hk, _, rfl, ?_⟩
    have ev := enc_val k t.keys
    cases e : valOf t.keys k with
    | some o =>
      rw [e] at ev
      have ev : valV (enc t.keys) (kk k) = some (V.int (o : Nat)) := ev
      rw [ev]
      refine iteT ?_
      refine ⟨_, rfl, p, C, dx, _, _, rfl, hp, T.cl, T.nK, tf_kept _ _ _, _, rfl, d, V.int (o : Nat), rfl, (by rw [← ev]; exact DGet.t hd hk), ?_⟩
      refine ⟨_, rfl, _, rfl, p, C, dx, _, _, rfl, hp, T.cl, T.nK, tf_kept _ _ _, _, rfl, d, _, rfl, DPut.t hd hk hsz, ?_⟩
      rw [enc_put_old v e]
      refine ⟨_, rfl, (by show 2 ≤ sizeLine; decide), fun l hl => ?_⟩
      obtain ⟨h1, h2, h3⟩ := tab_set (o := .lst [V.int 0, V.int (o : Nat)]) hp hd hl
      exact q1 o e _ l h1 h2 h3 upd_same
    | none =>
      rw [e] at ev
      have ev : valV (enc t.keys) (kk k) = none := ev
      rw [ev]
      refine iteF ?_
      obtain ⟨q2, q3⟩ := q2 e
      refine ⟨_, rfl, p, C, dx, _, _, rfl, hp, T.cl, T.nK, tf_kept _ _ _, d, _, rfl, hd, _, rfl, p, C, dx, _, _, rfl, hp, T.cl, T.nO, tf_slots _ _ _, _, _, rfl, rfl, _, rfl, ite2 (fun c => ?_) (fun c => ?_)⟩
      · have c1 : (t.slots : Int) ≤ ((enc t.keys).length : Int) := of_decide_eq_true c
        rw [enc_length] at c1
        exact ⟨rfl, fun l hl => q2 (by omega) _ l (Same.tab (same_new hl) hT0) (Same.kept (same_new hl)) hl upd_same⟩
      · have c1 : ¬ (t.slots : Int) ≤ ((enc t.keys).length : Int) := fun z => c (decide_eq_true z)
        rw [enc_length] at c1
        refine ⟨_, rfl, _, rfl, p, C, dx, _, _, rfl, hp, T.cl, T.nK, tf_kept _ _ _, _, rfl, d, _, rfl, DPut.t hd hk hsz, ?_⟩
        rw [enc_put_new v e]
        refine ⟨(by show 2 ≤ sizeLine; decide), fun l hl => ?_⟩
        obtain ⟨h1, h2, h3⟩ := tab_set (o := .lst [V.int 1, V.int 0]) hp hd hl
        exact q3 (by omega) _ l h1 h2 h3 upd_same
def spTGet (C : Addr) : Sp := fun vs H Q _ => ∃ (p a : Addr) (t : Sp05.Abs) (k : List UInt8), vs = [.ref p, .ref a] ∧ TabAt C H p t ∧ H a = some (.tup (vb k)) ∧
  (∀ o, valOf t.keys k = some o → Out C p H t [1, (o : Nat)] Q) ∧ (valOf t.keys k = none → Out C p H t [0, 0] Q)
theorem scTGet : FnScope ["self", "key"] ["self", "key"] (defScope sTGet) := ⟨rfl, rfl, rfl, by decide +kernel, rfl, by decide +kernel, by decide +kernel⟩
theorem ok_tget {f C : Addr} {fd : FuncData} (F : Fun K "get" "Table.get" sTGet f fd) (T : TTxt K C) : FnOk P w K mg base CX0 1 f fd ["self", "key"] (spTGet C) := by
  refine F.ok scTGet (fun vs H Q E h => ?_) (fun cdv A outer s H vs Q E hr h => ?_)
  · obtain ⟨p, a, t, k, rfl, _⟩ := h
    rfl
  · obtain ⟨p, a, t, k, rfl, hT, ha, q1, q2⟩ := h
    have hT0 := hT
    obtain ⟨dx, d, hp, hd⟩ := hT
    have hu := hu_of hr
    have hk : H a = some (.tup ((kk k).map kV)) := by rw [kk_vb]; exact ha
    refine ⟨_, pss_cons (ps_if (pt_cmp (pc_din hu (pv 1) (pe_fld (pv 0) rfl)))
        (pss_one (ps_ret (pe_lst (pa_cons pe_int (pa_cons (pe_dget hu (pe_fld (pv 0) rfl) (pv 1) (fun _ _ => rfl)) pa_nil))))) pss_nil)
      (pss_one (ps_ret (pe_lst (pa_cons pe_int (pa_cons pe_int pa_nil))))), ?_⟩
    refine ⟨_, rfl, _, rfl, p, C, dx, _, _, rfl, hp, T.cl, T.nK, tf_kept _ _ _, d, _, rfl, DGet.t hd hk, _, rfl, ?_⟩
    have ev := enc_val k t.keys
    cases e : valOf t.keys k with
    | some o =>
      rw [e] at ev
      have ev : valV (enc t.keys) (kk k) = some (V.int (o : Nat)) := ev
      rw [ev]
      refine iteT ?_
      refine ⟨_, rfl, p, C, dx, _, _, rfl, hp, T.cl, T.nK, tf_kept _ _ _, _, rfl, d, V.int (o : Nat), rfl, (by rw [← ev]; exact DGet.t hd hk), (by show 2 ≤ sizeLine; decide), fun l hl => ?_⟩
      exact q1 o e _ l (Same.tab (same_new hl) hT0) (Same.kept (same_new hl)) hl upd_same
    | none =>
      rw [e] at ev
      have ev : valV (enc t.keys) (kk k) = none := ev
      rw [ev]
      refine iteF ?_
      refine ⟨(by show 2 ≤ sizeLine; decide), fun l hl => ?_⟩
      exact q2 e _ l (Same.tab (same_new hl) hT0) (Same.kept (same_new hl)) hl upd_same
end
end Hp
end
section
set_option Elab.async false
set_option linter.all false
set_option maxRecDepth 100000
set_option maxHeartbeats 2000000
namespace Hp
open PySem PySem.Spec PyProof.Rows L2 HpR
/-! ### answers -/
abbrev sAnswers : Stmt := top 31
/-- the table at p is the state st -/
def Rel (C : Addr) (H : Hp) (p : Addr) : Option Sp05.Abs → Prop
  | none => TabAt C H p ⟨0, 0, []⟩
  | some t => TabAt C H p t
theorem Rel.ins {C : Addr} {H : Hp} {p : Addr} {st : Option Sp05.Abs} (h : Rel C H p st) : ∃ dx fs, H p = some (.ins C dx fs) := by
  cases st with
  | none => obtain ⟨dx, d, h, _⟩ := h; exact ⟨dx, _, h⟩
  | some t => obtain ⟨dx, d, h, _⟩ := h; exact ⟨dx, _, h⟩
/-- where a list alone changes, the table stays -/
theorem Rel.lst {C : Addr} {H : Hp} {p q : Addr} {st : Option Sp05.Abs} {xs ys : List V} (h : Rel C H p st) (hq : H q = some (.lst xs)) : Rel C (upd H q (.lst ys)) p st := by
  have key : ∀ t, TabAt C H p t → TabAt C (upd H q (.lst ys)) p t := fun t ⟨dx, d, h1, h2⟩ =>
    ⟨dx, d, by rw [upd_ne (ne_of h1 hq (fun z => nomatch z))]; exact h1, by rw [upd_ne (ne_of h2 hq (fun z => nomatch z))]; exact h2⟩
  cases st with
  | none => exact key _ h
  | some t => exact key _ h
theorem Rel.same {C : Addr} {H H' : Hp} {p : Addr} {st : Option Sp05.Abs} (s : Same H H') (h : Rel C H p st) : Rel C H' p st := by
  cases st with
  | none => exact Same.tab s h
  | some t => exact Same.tab s h
/-- all but the table, the reader and the dicts is as it was -/
def Kept2 (p r : Addr) (H H' : Hp) : Prop := ∀ b o, H b = some o → b ≠ p → b ≠ r → (∀ kvs, o ≠ .dT kvs) → H' b = some o
theorem Kept2.seq {K : PySem.W.Frag} {p r C dx C' dx' : Addr} {fs fs' : List (Str × V)} {H H' : Hp} {a : Addr} {xs : List V} (e : Kept2 p r H H') (hp : H p = some (.ins C dx fs)) (hr : H r = some (.ins C' dx' fs')) (h : SqL K H a xs) : SqL K H' a xs := by
  rcases h with (h | ⟨o, h⟩) | h
  · exact .inl (.inl (e _ _ h (ne_of h hp (fun z => nomatch z)) (ne_of h hr (fun z => nomatch z)) (fun _ z => nomatch z)))
  · exact .inl (.inr ⟨o, e _ _ h (ne_of h hp (fun z => nomatch z)) (ne_of h hr (fun z => nomatch z)) (fun _ z => nomatch z)⟩)
  · exact .inr h
theorem sq_lst {K : PySem.W.Frag} {H : Hp} {a q : Addr} {xs zs : List V} (h : SqL K H a xs) (n : a ≠ q ∨ ∀ H1, SqL K H1 a xs) : SqL K (upd H q (.lst zs)) a xs := by
  rcases n with n | n
  · rcases h with (h | ⟨o, h⟩) | h
    · exact .inl (.inl (by rw [upd_ne n]; exact h))
    · exact .inl (.inr ⟨o, by rw [upd_ne n]; exact h⟩)
    · exact .inr h
  · exact n _
theorem sq_new {K : PySem.W.Frag} {H : Hp} {a q : Addr} {xs : List V} (h : SqL K H a xs) (hq : H q = none) : a ≠ q ∨ ∀ H1, SqL K H1 a xs := by
  rcases h with (h | ⟨o, h⟩) | h
  · exact .inl (ne_of_none h hq)
  · exact .inl (ne_of_none h hq)
  · exact .inr fun H1 => .inr h
section
variable {P : Program} {w : World} {K : PySem.W.Frag} {mg : Str → Option Value} {base : Heap}
def spAnswer (K : PySem.W.Frag) (CT CR : Addr) : Sp := fun vs H Q _ => ∃ (p r a : Addr) (n : Nat) (ns t : List Int) (c : List (List Int)) (st : Option Sp05.Abs), vs = [.ref p, .ref r] ∧ Rel CT H p st ∧ Fit st ∧ RdAt CR H r a n ∧ SqL K H a (ns.map V.int) ∧
  One (ns.drop n) c t ∧ Sp05Neutral.asked1 c = true ∧ (st = none → Sp05Neutral.begins c = true) ∧
  ∀ H' l n', Rel CT H' p (Sp05Neutral.step st c).1 → RdAt CR H' r a n' → ns.drop n' = t → n < n' → n' ≤ ns.length → Kept2 p r H H' → H l = none → H' l = some (.lst ((Sp05Neutral.step st c).2.map V.int)) → Q (.ref l) H'
/-- the request's list, known by its object -/
def spAnswers (K : PySem.W.Frag) : Sp := fun vs H Q _ => ∃ (a : Addr) (ns : List Int), vs = [.ref a] ∧ SqL K H a (ns.map V.int) ∧ PySp05.answers_asked ns = true ∧ ∀ (H' : Hp) (p : Addr), H' p = some (.lst ((PySp05.answers ns).map V.int)) → Q (.ref p) H'
theorem scAnswers : FnScope ["calls", "table", "reader", "answered", "told"] ["calls"] (defScope sAnswers) := ⟨rfl, rfl, rfl, by decide +kernel, rfl, by decide +kernel, by decide +kernel⟩
theorem ok_answers {f CT CR fTI fRI fM fA : Addr} {fd dTI dRI dM dA : FuncData} (F : Fun K "answers" "answers" sAnswers f fd) (T : Txt mg) (RT : RTxt K CR) (mT : mg "Table" = some (.ref CT)) (mR : mg "Reader" = some (.ref CR))
    (MT : Mk K CT fTI) (bTI : Binds K dTI ["self"] []) (GTI : FnOk P w K mg base CX0 1 fTI dTI ["self"] (spTI CT)) (MR : Mk K CR fRI) (bRI : Binds K dRI ["self", "numbers"] []) (GRI : FnOk P w K mg base CX0 1 fRI dRI ["self", "numbers"] (spRI CR))
    (MM : Md K CR "more" fM dM ["self"]) (GM : FnOk P w K mg base CX0 1 fM dM ["self"] (spRMore K CR)) (FA : Fn K mg "answer" fA dA ["table", "reader"]) (GA : FnOk P w K mg base CX0 7 fA dA ["table", "reader"] (spAnswer K CT CR)) :
    FnOk P w K mg base CX0 8 f fd ["calls"] (spAnswers K) := by
  refine F.ok scAnswers (fun vs H Q E h => ?_) (fun cdv A outer s H vs Q E hr h => ?_)
  · obtain ⟨a, ns, rfl, _⟩ := h
    rfl
  · obtain ⟨a, ns, rfl, hS, hask, k⟩ := h
    have hr1 : Room 1 _ := hr.mono (by decide)
    have hr2 : Room 2 _ := hr.mono (by decide)
    obtain ⟨cs0, rd0, as0, l0, hd0, eq0⟩ := asked_reads hask
    refine ⟨_, pss_cons (ps_set (i := 1) scAnswers.nd rfl (Or.inl rfl) (pe_make0 MT GTI hr2 rfl mT bTI .nil pass0))
      (pss_cons (ps_set (i := 2) scAnswers.nd rfl (Or.inl rfl) (pe_make MR GRI hr2 rfl mR bRI .nil pass0 (pa_cons (pv 0) pa_nil)))
      (pss_cons (ps_set (i := 3) scAnswers.nd rfl (Or.inl rfl) (pe_lst pa_nil))
      (pss_cons (ps_while PassesOwn.never (pt_val (pe_meth0 (pv 2) RT.cl MM.me GM hr1 MM.b .nil pass0))
        (pss_cons (ps_set (i := 4) scAnswers.nd rfl (Or.inl rfl) (pe_call GA hr rfl FA.mg FA.kp FA.b .nil pass0 (pa_cons (pv 1) (pa_cons (pv 2) pa_nil))))
        (pss_cons (ps_expr (pe_bm PySem.F.plainAttrs_list PySem.F.slot_list_append PySem.F.type_list_append mt_append (pv 3) (pa_cons (pe_callB call_len_seq (by rfl) T.len PySem.boot_len (pa_cons (pv 4) pa_nil)) pa_nil)))
        (pss_one (ps_expr (pe_bm PySem.F.plainAttrs_list PySem.F.slot_list_extend PySem.F.type_list_extend mt_extend (pv 3) (pa_cons (pv 4) pa_nil)))))))
      (pss_one (ps_ret (pv 3)))))), ?_⟩
    -- table = Table(); reader = Reader(calls); answered = []
    intro p dp np ndp nep
    refine ⟨p, dp, rfl, upd_same, fun H1 hT b1 => ⟨rfl, ?_⟩⟩
    have s1 : Same H H1 := Same.made np ndp b1
    refine ⟨_, rfl, ?_⟩
    intro r dr nr ndr ner
    refine ⟨r, dr, a, rfl, upd_same, fun H2 hR b2 => ⟨rfl, Nat.zero_le _, fun q hq => ?_⟩⟩
    have s2 : Same H1 H2 := Same.made nr ndr b2
    have s3 := same_new (o := .lst []) hq
    have s13 : Same H (upd H2 q (.lst [])) := (s1.trans s2).trans s3
    have hR3 : RdAt CR (upd H2 q (.lst [])) r a 0 := by
      obtain ⟨dx, h⟩ := hR
      exact ⟨dx, s3 _ _ h⟩
    -- the loop
    refine ⟨fun m σ H' => ∃ (n : Nat) (st : Option Sp05.Abs) (cs : List (List (List Int))) (out : List Int) (v : Option V), σ = [some (.ref a), some (.ref p), some (.ref r), some (.ref q), v] ∧ RdAt CR H' r a n ∧ SqL K H' a (ns.map V.int) ∧ Rel CT H' p st ∧ Fit st ∧
        H' q = some (.lst (out.map V.int)) ∧ (a ≠ q ∨ ∀ H1, SqL K H1 a (ns.map V.int)) ∧ Reads (ns.drop n) cs ∧ (∀ c ∈ cs, Sp05Neutral.asked1 c = true) ∧ (st = none → (cs.head?.map Sp05Neutral.begins).getD false = true) ∧
        PySp05.answers ns = out ++ PyFlat.told (PyFlat.played Sp05Neutral.step st cs) ∧ out.length + 258 * cs.length ≤ 103200 ∧ n ≤ ns.length ∧ m = ns.length - n,
      ⟨_, 0, none, cs0, [], none, rfl, hR3, s13.seq hS, Rel.same (st := none) (s2.trans s3) hT, (fun _ z => nomatch z), upd_same, ?_, ?_, as0, fun _ => hd0, ?_, ?_, Nat.zero_le _, rfl⟩, ?_⟩
    · exact sq_new ((s1.trans s2).seq hS) hq
    · rw [List.drop_zero]
      exact rd0
    · rw [List.nil_append]
      exact eq0
    · rw [List.length_nil]
      omega
    · rintro m σ H' ⟨n, st, cs, out, v, rfl, hR, hS', hT', hF, hq', naq, rd, as, hb, eq, hl, hn, rfl⟩
      have hR' := hR
      obtain ⟨dx, hr'⟩ := hR
      refine ⟨_, rfl, r, dx, _, rfl, hr', rf_no a n (by decide +kernel) (by decide +kernel), r, a, n, ns, rfl, hR', hS', _, rfl, ite2 (fun c => ?_) (fun c => ?_)⟩
      · have c1 : n < ns.length := of_decide_eq_true c
        obtain ⟨c0, t, cs', ho, rd', rfl⟩ : ∃ c0 t cs', One (ns.drop n) c0 t ∧ Reads t cs' ∧ cs = c0 :: cs' := by
          generalize e : ns.drop n = l at rd
          cases rd with
          | nil =>
            have := congrArg List.length e
            rw [List.length_drop, List.length_nil] at this
            omega
          | cons h r => exact ⟨_, _, _, h, r, rfl⟩
        have hask0 := as c0 (List.mem_cons_self ..)
        have hbeg : st = none → Sp05Neutral.begins c0 = true := fun z => hb z
        obtain ⟨⟨t', et', gt'⟩, hlen⟩ := well_step ho hF hask0 hbeg
        refine ⟨fun σ' H'' => ∃ m', m' < ns.length - n ∧ _, fun _ _ z => z, ?_⟩
        refine ⟨_, rfl, _, rfl, p, r, a, n, ns, t, c0, st, rfl, hT', hF, hR', hS', ho, hask0, hbeg, fun H4 l n' hT4 hR4 en' hnn hnl kp hlN hl4 => ?_⟩
        obtain ⟨dxp, fsp, hp'⟩ := hT'.ins
        have hq4 : H4 q = some (.lst (out.map V.int)) := kp _ _ hq' (ne_of hq' hp' (fun z => nomatch z)) (ne_of hq' hr' (fun z => nomatch z)) (fun _ z => nomatch z)
        have hS4 := kp.seq hp' hr' hS'
        have nlq : l ≠ q := fun z => by rw [z, hq'] at hlN; cases hlN
        have ho1 : out.length + 258 ≤ 103200 := by rw [List.length_cons] at hl; omega
        have sz := sizeLine_eq
        refine ⟨_, rfl, .inl ⟨rfl, _, SqL.of hq4⟩, _, rfl, l, _, rfl, .inl (SqL.of hl4), q, _, _, rfl, rfl, hq4, (by rw [List.length_map, sz]; omega), ?_⟩
        refine ⟨_, rfl, .inl ⟨rfl, _, SqL.of upd_same⟩, _, rfl, q, l, _, _, rfl, rfl, upd_same, (by rw [upd_ne nlq]; exact hl4), (by rw [List.length_append, List.length_map, List.length_map, List.length_singleton, sz]; omega), ?_⟩
        refine ⟨ns.length - n', by omega, n', (Sp05Neutral.step st c0).1, cs', out ++ ((((Sp05Neutral.step st c0).2.length : Nat) : Int) :: (Sp05Neutral.step st c0).2), _, rfl, ?_, ?_, ?_, ?_, ?_, naq, ?_, fun c hc => as c (List.mem_cons_of_mem _ hc), ?_, ?_, ?_, hnl, rfl⟩
        · obtain ⟨dx4, h4⟩ := hR4
          exact ⟨dx4, by rw [upd_ne (ne_of h4 hq4 (fun z => nomatch z)), upd_ne (ne_of h4 hq4 (fun z => nomatch z))]; exact h4⟩
        · exact sq_lst (sq_lst hS4 naq) naq
        · exact (hT4.lst hq4).lst upd_same
        · intro t2 e2
          rw [et'] at e2
          cases e2
          exact gt'
        · rw [upd_same, List.map_append, List.map_cons, List.append_assoc, List.length_map]
          rfl
        · rw [en']
          exact rd'
        · intro z
          rw [et'] at z
          cases z
        · rw [eq, played_cons, told_cons, List.append_assoc]
        · rw [List.length_append, List.length_cons]
          rw [List.length_cons] at hl
          omega
      · have c1 : ¬ n < ns.length := fun z => c (decide_eq_true z)
        have e : ns.drop n = [] := List.drop_of_length_le (by omega)
        rw [e] at rd
        have ecs : cs = [] := by
          generalize el : ([] : List Int) = l at rd
          cases rd with
          | nil => rfl
          | cons h r => subst el; cases h
        subst ecs
        have eo : PySp05.answers ns = out := by
          rw [eq]
          exact List.append_nil _
        refine ⟨_, rfl, k H' q ?_⟩
        rw [eo]
        exact hq'
end
end Hp
end
section
set_option Elab.async false
set_option linter.all false
set_option maxRecDepth 100000
set_option maxHeartbeats 2000000
namespace Hp
open PySem PySem.Spec PyProof.Rows L2 HpR HpS
/-! ### the laying: in_laying_order, next_free, laid -/
abbrev sOrder : Stmt := top 22
abbrev sNext : Stmt := top 23
abbrev sLaid : Stmt := top 24
theorem boot_srt : bootBuiltins "sorted" = some (.builtin "sorted") := by decide +kernel
/-- the keys in an order by rank are those of sorted -/
theorem keys_sorted {t : Sp05.Abs} (g : Sp05.Good t) {ks : List Sp05.Key} (hp : ks.Perm (t.keys.map (·.1))) (hw : ks.Pairwise (fun x y => rank t x ≤ rank t y)) : t.sorted.map (·.1) = ks := by
  have e0 : t.keys.map (fun x => (x.1, (t.value x.1).getD 0)) = t.keys := by
    refine (List.map_congr_left fun x hx => ?_).trans (List.map_id' _)
    rw [value_of_mem g (show (x.1, x.2) ∈ t.keys from hx)]
    rfl
  have p2 : (ks.map fun k => (k, (t.value k).getD 0)).Perm t.keys := by
    have := hp.map fun k => (k, (t.value k).getD 0)
    rw [List.map_map] at this
    have e1 : t.keys.map ((fun k => (k, (t.value k).getD 0)) ∘ fun x => x.1) = t.keys := e0
    rw [e1] at this
    exact this
  have em : (ks.map fun k => (k, (t.value k).getD 0)).map (·.1) = ks := by
    rw [List.map_map]
    exact List.map_id' ks
  have o : Ordered t (ks.map fun k => (k, (t.value k).getD 0)) := by
    refine ordered_of_rank (fun x hx => ?_) ?_ ?_
    · exact List.mem_map_of_mem (p2.mem_iff.mp hx)
    · rw [em]
      exact hp.nodup_iff.mpr g.once
    · rw [List.pairwise_map]
      exact hw
  rw [sorted_eq t g.once o p2]
  exact em
/-- all but the one at d is as it was -/
theorem RowAt.keep {t : Sp05.Abs} {H H' : Hp} {r : Addr} {k : Sp05.Key} (h : RowAt t H r k) (s : ∀ b xs, H b = some (.tup xs) → H' b = some (.tup xs)) : RowAt t H' r k := by
  obtain ⟨a, h1, h2⟩ := h
  exact ⟨a, s _ _ h1, s _ _ h2⟩
theorem paired_imp {α β : Type} {G G' : α → β → Prop} {l : List α} {m : List β} (h : Paired G l m) (f : ∀ a b, G a b → G' a b) : Paired G' l m := by
  induction h with
  | nil => exact .nil
  | cons r t ih => exact .cons (f _ _ r) ih
theorem paired_snoc {α β : Type} {G : α → β → Prop} {l : List α} {m : List β} {a : α} {b : β} (h : Paired G l m) (r : G a b) : Paired G (l ++ [a]) (m ++ [b]) := by
  induction h with
  | nil => exact .cons r .nil
  | cons r' t ih => exact .cons r' ih
theorem paired_len {α β : Type} {G : α → β → Prop} {l : List α} {m : List β} (h : Paired G l m) : l.length = m.length := Paired.length h
section
variable {P : Program} {w : World} {K : PySem.W.Frag} {mg : Str → Option Value} {base : Heap}
def spOrder : Sp := fun vs H Q _ => ∃ (d : Addr) (t : Sp05.Abs), vs = [.ref d, .int t.seed, .int t.slots] ∧ Sp05.Good t ∧ H d = some (.dT (enc t.keys)) ∧
  ∀ H' p rs, Same H H' → H p = none → H' p = some (.lst (rs.map V.ref)) → Paired (RowAt t H') rs (t.sorted.map (·.1)) → Q (.ref p) H'
theorem scOrder : FnScope ["keys", "seed", "slots", "rows", "key", "mix"] ["keys", "seed", "slots"] (defScope sOrder) := ⟨rfl, rfl, rfl, by decide +kernel, rfl, by decide +kernel, by decide +kernel⟩
theorem ok_order {f fM fH : Addr} {fd dM dH : FuncData} (F : Fun K "in_laying_order" "in_laying_order" sOrder f fd) (hsrt : mg "sorted" = none) (FM : Fn K mg "mix_of" fM dM ["seed", "key"]) (GM : FnOk P w K mg base CX0 2 fM dM ["seed", "key"] spMix)
    (FH : Fn K mg "home_of" fH dH ["mix", "slots"]) (GH : FnOk P w K mg base CX0 1 fH dH ["mix", "slots"] spHome) : FnOk P w K mg base CX0 3 f fd ["keys", "seed", "slots"] spOrder := by
  refine F.ok scOrder (fun vs H Q E h => ?_) (fun cdv A outer s H vs Q E hr h => ?_)
  · obtain ⟨d, t, rfl, _⟩ := h
    rfl
  · obtain ⟨d, t, rfl, g, hd, q⟩ := h
    have hr1 : Room 1 _ := hr.mono (by decide)
    refine ⟨_, pss_cons (ps_set (i := 3) scOrder.nd rfl (Or.inl rfl) (pe_lst pa_nil))
      (pss_cons (ps_lock (ps_for PassesOwn.never rfl (pi_keys (pv 0)) (pg_name (i := 4) scOrder.nd rfl (Or.inl rfl))
        (pss_cons (ps_set (i := 5) scOrder.nd rfl (Or.inl rfl) (pe_call GM hr rfl FM.mg FM.kp FM.b .nil pass0 (pa_cons (pv 1) (pa_cons (pv 4) pa_nil))))
        (pss_one (ps_expr (pe_bm PySem.F.plainAttrs_list PySem.F.slot_list_append PySem.F.type_list_append mt_append (pv 3)
          (pa_cons (pe_tup (pa_cons (pe_call GH hr1 rfl FH.mg FH.kp FH.b .nil pass0 (pa_cons (pv 5) (pa_cons (pv 2) pa_nil))) (pa_cons (pv 5) (pa_cons (pv 4) pa_nil)))) pa_nil)))))))
      (pss_one (ps_ret (pe_callB (cr_sortT t hr.units) (by rfl) hsrt boot_srt (pa_cons (pv 3) pa_nil))))), ?_⟩
    have sz := sizeLine_eq
    have few : t.keys.length ≤ 128 := Nat.le_trans g.few g.slots.2
    refine ⟨Nat.zero_le _, fun l hl => ?_⟩
    have hdl : d ≠ l := ne_of_none hd hl
    have hd1 : upd H l (.lst []) d = some (.dT (enc t.keys)) := by rw [upd_ne hdl]; exact hd
    refine ⟨d, _, hd1, True.intro, fun od => ?_⟩
    refine ⟨_, rfl, d, od, rfl, .inr ⟨enc t.keys, upd_same, ?_⟩⟩
    -- the loop over the keys
    let I : Nat → L2.St → Hp → Prop := fun i σ H' => ∃ (rs : List Addr) (x y : Option V), σ = [some (.ref d), some (.int t.seed), some (.int t.slots), some (.ref l), x, y] ∧ H' l = some (.lst (rs.map V.ref)) ∧
      Paired (RowAt t H') rs ((t.keys.take i).map (·.1)) ∧ (∀ b o, H b = some o → b ≠ d → H' b = some o) ∧ H' d = some (.frz od (.dT (enc t.keys))) ∧ i ≤ t.keys.length
    refine ⟨fun i m σ H' => I i σ H' ∧ m = t.keys.length - i, ⟨_, ⟨[], none, none, rfl, ?_, ?_, ?_, upd_same, Nat.zero_le _⟩, rfl⟩, ?_⟩
    · rw [upd_ne hdl.symm, upd_same]
      rfl
    · rw [List.take_zero]
      exact .nil
    · intro b o e n
      rw [upd_ne n, upd_ne (ne_of_none e hl)]
      exact e
    rintro i m σ H' ⟨⟨rs, x, y, rfl, hl', pr, sm, hd', hi⟩, rfl⟩
    by_cases lt : i < t.keys.length
    · refine .inr ⟨⟨hd', by rw [enc_length]; exact lt⟩, fun σ' H'' => I (i + 1) σ' H'', fun σ' H'' z => ⟨_, ?_, z, rfl⟩, ?_⟩
      · omega
      rintro v H1 ⟨rfl, kq, vq, q', hkv, rfl, hq'⟩
      obtain ⟨kv, ekv⟩ : ∃ kv, t.keys[i]? = some kv := ⟨t.keys[i], List.getElem?_eq_getElem lt⟩
      have ek : kq = kk kv.1 := by
        unfold enc at hkv
        rw [List.getElem?_map, ekv] at hkv
        have := Option.some.inj hkv
        exact (congrArg Prod.fst this).symm
      subst ek
      rw [kk_vb] at hq'
      have mem : kv ∈ t.keys := List.mem_of_getElem? ekv
      refine ⟨_, rfl, _, rfl, t.seed, q', kv.1, rfl, g.seed, g.short kv mem, hq', fun H2 s2 => ?_⟩
      refine ⟨_, rfl, .inl ⟨rfl, _, SqL.of (s2 _ _ hl')⟩, ?_⟩
      refine ⟨_, rfl, _, rfl, Sp05.mix t.seed kv.1, t.slots, rfl, mix_lt kv.1 g.seed, _, rfl, _, rfl, (by show 3 ≤ sizeLine; decide), fun T hT => ?_⟩
      have s3 := same_new (o := .tup [.int ((Sp05.mix t.seed kv.1 * t.slots / 2 ^ 64 : Nat) : Int), .int (Sp05.mix t.seed kv.1 : Nat), .ref q']) hT
      have hl3 := s3 _ _ (s2 _ _ hl')
      have lrs : rs.length = i := by
        have := paired_len pr
        rw [List.length_map, List.length_take] at this
        omega
      refine ⟨l, _, _, rfl, rfl, hl3, (by rw [List.length_map, lrs, sz]; omega), ?_⟩
      have hTl : T ≠ l := fun z => by subst z; rw [s2 _ _ hl'] at hT; cases hT
      have tups : ∀ b xs, H1 b = some (.tup xs) → upd (upd H2 T (.tup [.int ((Sp05.mix t.seed kv.1 * t.slots / 2 ^ 64 : Nat) : Int), .int (Sp05.mix t.seed kv.1 : Nat), .ref q'])) l (.lst (rs.map V.ref ++ [V.ref T])) b = some (.tup xs) := fun b xs e => by
        rw [upd_ne (ne_of e hl' (fun z => nomatch z))]
        exact s3 _ _ (s2 _ _ e)
      refine ⟨rs ++ [T], _, _, rfl, ?_, ?_, ?_, ?_, lt⟩
      · rw [upd_same, List.map_append]
        rfl
      · have et : t.keys.take (i + 1) = t.keys.take i ++ [kv] := by
          rw [List.take_succ, ekv]
          rfl
        rw [et, List.map_append]
        refine paired_snoc (paired_imp pr fun r k h => h.keep tups) ⟨q', ?_, tups _ _ hq'⟩
        rw [upd_ne hTl, upd_same]
        rfl
      · intro b o e n
        have eb := sm b o e n
        rw [upd_ne (ne_of_none e hl)]
        exact s3 _ _ (s2 _ _ eb)
      · rw [upd_ne hdl]
        exact s3 _ _ (s2 _ _ hd')
    · have ei : i = t.keys.length := by omega
      subst ei
      refine .inl ⟨⟨hd', by rw [enc_length]; exact Nat.le_refl _⟩, hd', ?_⟩
      rw [List.take_length] at pr
      have tups : ∀ b xs, H' b = some (.tup xs) → upd H' d (.dT (enc t.keys)) b = some (.tup xs) := fun b xs e => by
        rw [upd_ne (ne_of e hd' (fun z => nomatch z))]
        exact e
      have s4 : Same H (upd H' d (.dT (enc t.keys))) := fun b o e => by
        by_cases c : b = d
        · subst c
          rw [hd] at e
          rw [upd_same]
          exact e
        · rw [upd_ne c]
          exact sm b o e c
      have hl5 : upd H' d (.dT (enc t.keys)) l = some (.lst (rs.map V.ref)) := by rw [upd_ne hdl.symm]; exact hl'
      have lrs := paired_len pr
      rw [List.length_map] at lrs
      refine ⟨_, rfl, l, rs, t.keys.map (·.1), rfl, SqL.of hl5, paired_imp pr fun r k h => h.keep tups, fun k hk => hk, by omega, fun rs' ks' p kp kw pr' hp => ?_⟩
      have e := keys_sorted g kp kw
      have s6 := same_new (o := .lst (rs'.map V.ref)) hp
      refine q _ p rs' (s4.trans s6) (s4.free hp) upd_same ?_
      rw [e]
      exact paired_imp pr' fun r k h => h.keep fun b xs z => s6 _ _ z
end
end Hp
end
section
set_option Elab.async false
set_option linter.all false
set_option maxRecDepth 100000
set_option maxHeartbeats 2000000
namespace Hp
open PySem PySem.Spec PyProof.Rows L2 HpR HpS
theorem ixN_nat {n j : Nat} (h : j < n) : ixN n (j : Int) = some j := by
  unfold ixN
  rw [if_pos (by omega), if_pos (by omega), Int.toNat_natCast]
theorem pv_at {H : Hp} {n p : Nat} {R : List (Option Sp05.Key)} {acc : Lay} {ys : List V} (pv : Paired (PV H) R ys) (pl : Places n R acc) (hp : p < n) : ∃ v, ys[p]? = some v ∧ (decide (v = .non) = !takenAt acc p) := by
  obtain ⟨v, ev, gv⟩ := paired_get pv (pl.at_ p hp)
  refine ⟨v, ev, ?_⟩
  cases e : laidAt acc p with
  | none =>
    rw [e] at gv
    rw [laidAt_none.mp e]
    exact decide_eq_true gv
  | some k =>
    rw [e] at gv
    obtain ⟨a, rfl, _⟩ := gv
    have : takenAt acc p = true := by
      cases c : takenAt acc p with
      | true => rfl
      | false => rw [laidAt_none.mpr c] at e; cases e
    rw [this]
    rfl
theorem paired_set {α β : Type} {G : α → β → Prop} {l : List α} {m : List β} {a : α} {b : β} (r : G a b) (h : Paired G l m) : ∀ (i : Nat), Paired G (l.set i a) (m.set i b) := by
  induction h with
  | nil => exact fun _ => .nil
  | cons r' t ih =>
    intro i
    cases i with
    | zero => exact .cons r t
    | succ j => exact .cons r' (ih j)
theorem PV.keep {H H' : Hp} {o : Option Sp05.Key} {v : V} (h : PV H o v) (s : ∀ b xs, H b = some (.tup xs) → H' b = some (.tup xs)) : PV H' o v := by
  cases o with
  | none => exact h
  | some k =>
    obtain ⟨a, e, ha⟩ := h
    exact ⟨a, e, s _ _ ha⟩
theorem pv_nil (H : Hp) : ∀ (n : Nat), Paired (PV H) (List.replicate n none) (List.replicate n [V.non]).flatten
  | 0 => .nil
  | n + 1 => by
    rw [List.replicate_succ, List.replicate_succ, List.flatten_cons]
    exact .cons rfl (pv_nil H n)
section
variable {P : Program} {w : World} {K : PySem.W.Frag} {mg : Str → Option Value} {base : Heap}
def spNext : Sp := fun vs H Q _ => ∃ (l : Addr) (h n : Nat) (ys : List V) (R : List (Option Sp05.Key)) (acc : Lay), vs = [.ref l, .int h] ∧ H l = some (.lst ys) ∧ Paired (PV H) R ys ∧ Places n R acc ∧ h < n ∧ acc.length < n ∧
  ∀ j, j < n → takenAt acc ((h + j) % n) = false → (∀ i, i < j → takenAt acc ((h + i) % n) = true) → Q (.int ((h + j) % n : Nat)) H
theorem scNext : FnScope ["places", "home", "place"] ["places", "home"] (defScope sNext) := ⟨rfl, rfl, rfl, by decide +kernel, rfl, by decide +kernel, by decide +kernel⟩
theorem ok_next {f : Addr} {fd : FuncData} (F : Fun K "next_free" "next_free" sNext f fd) (T : Txt mg) : FnOk P w K mg base CX0 1 f fd ["places", "home"] spNext := by
  refine F.ok scNext (fun vs H Q E h => ?_) (fun cdv A outer s H vs Q E hr h => ?_)
  · obtain ⟨l, h, n, ys, R, acc, rfl, _⟩ := h
    rfl
  · obtain ⟨l, h, n, ys, R, acc, rfl, hl, pw, pl, hn, few, q⟩ := h
    refine ⟨_, pss_cons (ps_set (i := 2) scNext.nd rfl (Or.inl rfl) (pv 1))
      (pss_cons (ps_while PassesOwn.never (pt_cmp (pc_notN (pe_ix ix_list (pv 0) (pv 2) (fun _ _ => rfl))))
        (pss_one (ps_set (i := 2) scNext.nd rfl (Or.inl rfl) (pe_op op_mod (pe_op op_add (pv 2) pe_int) (pe_callB call_len_seq (by rfl) T.len PySem.boot_len (pa_cons (pv 0) pa_nil))))))
      (pss_one (ps_ret (pv 2)))), ?_⟩
    have ly : ys.length = n := by
      have := paired_len pw
      rw [pl.len] at this
      exact this.symm
    refine ⟨_, rfl, ?_⟩
    refine ⟨fun m σ H' => ∃ j, σ = [some (.ref l), some (.int h), some (.int ((h + j) % n : Nat))] ∧ H' = H ∧ j < n ∧ (∀ i, i < j → takenAt acc ((h + i) % n) = true) ∧ m = n - j, ⟨_, 0, ?_, rfl, by omega, fun i z => absurd z (Nat.not_lt_zero _), rfl⟩, ?_⟩
    · rw [Nat.add_zero, Nat.mod_eq_of_lt hn]
      rfl
    · rintro m σ H' ⟨j, rfl, rfl, hj, ht, rfl⟩
      have hp : (h + j) % n < n := Nat.mod_lt _ (by omega)
      obtain ⟨v, ev, dv⟩ := pv_at pw pl hp
      refine ⟨_, rfl, _, rfl, l, ys, _, v, rfl, rfl, SqL.of hl, atI_nat ev, _, rfl, ?_⟩
      rw [dv, Bool.not_not]
      cases c : takenAt acc ((h + j) % n) with
      | true =>
        refine iteT ⟨fun σ' H'' => ∃ m', m' < n - j ∧ _, fun _ _ z => z, ?_⟩
        refine ⟨_, rfl, _, _, rfl, rfl, _, rfl, l, ys, rfl, .inl (SqL.of hl), _, _, rfl, rfl, (by show (0 : Int) < (ys.length : Int); omega), ?_⟩
        have all : ∀ i, i ≤ j → takenAt acc ((h + i) % n) = true := fun i hi => by
          rcases Nat.lt_or_ge i j with z | z
          · exact ht i z
          · have : i = j := by omega
            rw [this]
            exact c
        have nx := round_next few hj all
        refine ⟨n - (j + 1), by omega, j + 1, ?_, rfl, nx, fun i hi => all i (by omega), rfl⟩
        have e : (((h + j) % n : Nat) : Int) + 1 = (((h + j) % n + 1 : Nat) : Int) := rfl
        have e2 : ((((h + j) % n + 1 : Nat) : Int)) % (n : Int) = (((h + (j + 1)) % n : Nat) : Int) := by
          rw [← Int.natCast_emod, round_step]
        show [some (V.ref l), some (V.int h), some (V.int (((((h + j) % n : Nat) : Int) + 1) % (ys.length : Int)))] = _
        rw [ly, e, e2]
      | false =>
        exact iteF ⟨_, rfl, q j hj c ht⟩
def spLaid : Sp := fun vs H Q _ => ∃ (d : Addr) (t : Sp05.Abs), vs = [.ref d, .int t.seed, .int t.slots] ∧ Sp05.Good t ∧ H d = some (.dT (enc t.keys)) ∧
  ∀ H' p ys R, Same H H' → H p = none → H' p = some (.lst ys) → Paired (PV H') R ys → Places t.slots R t.layout → Q (.ref p) H'
theorem scLaid : FnScope ["keys", "seed", "slots", "places", "home", "mix", "key"] ["keys", "seed", "slots"] (defScope sLaid) := ⟨rfl, rfl, rfl, by decide +kernel, rfl, by decide +kernel, by decide +kernel⟩
theorem ok_laid {f fO fN : Addr} {fd dO dN : FuncData} (F : Fun K "laid" "laid" sLaid f fd) (FO : Fn K mg "in_laying_order" fO dO ["keys", "seed", "slots"]) (GO : FnOk P w K mg base CX0 3 fO dO ["keys", "seed", "slots"] spOrder)
    (FN : Fn K mg "next_free" fN dN ["places", "home"]) (GN : FnOk P w K mg base CX0 1 fN dN ["places", "home"] spNext) : FnOk P w K mg base CX0 4 f fd ["keys", "seed", "slots"] spLaid := by
  refine F.ok scLaid (fun vs H Q E h => ?_) (fun cdv A outer s H vs Q E hr h => ?_)
  · obtain ⟨d, t, rfl, _⟩ := h
    rfl
  · obtain ⟨d, t, rfl, g, hd, q⟩ := h
    have hr1 : Room 1 _ := hr.mono (by decide)
    refine ⟨_, pss_cons (ps_set (i := 3) scLaid.nd rfl (Or.inl rfl) (pe_op op_rep (pe_lst (pa_cons pe_non pa_nil)) (pv 2)))
      (pss_cons (ps_for PassesOwn.never rfl (pi_list (pe_call GO hr rfl FO.mg FO.kp FO.b .nil pass0 (pa_cons (pv 0) (pa_cons (pv 1) (pa_cons (pv 2) pa_nil)))))
        (pg_tup rfl (pgs_cons (pg_name (i := 4) scLaid.nd rfl (Or.inl rfl)) (pgs_cons (pg_name (i := 5) scLaid.nd rfl (Or.inl rfl)) (pgs_cons (pg_name (i := 6) scLaid.nd rfl (Or.inl rfl)) pgs_nil))))
        (pss_one (ps_asg (pv 6) (pg_sub (pv 3) (pe_call GN hr1 rfl FN.mg FN.kp FN.b .nil pass0 (pa_cons (pv 3) (pa_cons (pv 4) pa_nil))) set_list))))
      (pss_one (ps_ret (pv 3)))), ?_⟩
    have sz := sizeLine_eq
    have hs := g.slots
    have hs2 : t.slots ≤ 128 := hs.2
    refine ⟨(by show 1 ≤ sizeLine; decide), fun l0 hl0 => ?_⟩
    refine ⟨_, rfl, l0, _, [.non], rfl, rfl, upd_same, (by show -(2 ^ 63) ≤ (t.slots : Int); omega), (by show (t.slots : Int) < 2 ^ 63; omega), (by show 1 * (t.slots : Int).toNat ≤ sizeLine; rw [sz]; omega), fun l hl => ?_⟩
    have s0 := same_new (o := .lst [V.non]) hl0
    have s1 := same_new (o := .lst (List.replicate (t.slots : Int).toNat [V.non]).flatten) hl
    have s01 := s0.trans s1
    have hlH : H l = none := s0.free hl
    refine ⟨_, rfl, _, rfl, _, rfl, d, t, rfl, g, s01 _ _ hd, fun H1 p rs s2 hpn hp pr => ?_⟩
    have hpl : p ≠ l := (ne_of_none upd_same hpn).symm
    have sH : Same H H1 := s01.trans s2
    have hl1 : H1 l = some (.lst (List.replicate t.slots [V.non]).flatten) := s2 _ _ upd_same
    have lsd : t.sorted.length = t.keys.length := (sorted_perm t).length_eq
    have lrs : rs.length = t.sorted.length := by
      have := paired_len pr
      rw [List.length_map] at this
      exact this
    refine ⟨p, rfl, ⟨_, SqL.of hp⟩, for_list (K := K) (a := p) (xs := rs.map V.ref) (fun i σ H' => ∃ (ys : List V) (R : List (Option Sp05.Key)) (x y z : Option V), σ = [some (.ref d), some (.int t.seed), some (.int t.slots), some (.ref l), x, y, z] ∧ H' l = some (.lst ys) ∧
      Paired (PV H') R ys ∧ Places t.slots R (layFrom t (t.sorted.take i) []) ∧ (∀ b o, H1 b = some o → b ≠ l → H' b = some o)) ?_ ?_ ?_ ?_⟩
    · refine ⟨_, List.replicate t.slots none, none, none, none, rfl, hl1, pv_nil H1 t.slots, ?_, fun b o e _ => e⟩
      rw [List.take_zero]
      exact places_nil t.slots
    · rintro i σ H' _ ⟨ys, R, x, y, z, rfl, hl', pq, pl, sm⟩
      exact SqL.of (sm _ _ hp hpl)
    · rintro i x σ H' hx ⟨ys, R, x1, y1, z1, rfl, hl', pq, pl, sm⟩
      obtain ⟨r, er, rfl⟩ : ∃ r, rs[i]? = some r ∧ x = .ref r := by
        rw [List.getElem?_map] at hx
        cases e : rs[i]? with
        | none => rw [e] at hx; cases hx
        | some r => rw [e] at hx; exact ⟨r, rfl, (Option.some.inj hx).symm⟩
      obtain ⟨k, ek, hrow⟩ := paired_get pr er
      obtain ⟨kv, ekv, rfl⟩ : ∃ kv, t.sorted[i]? = some kv ∧ kv.1 = k := by
        rw [List.getElem?_map] at ek
        cases e : t.sorted[i]? with
        | none => rw [e] at ek; cases ek
        | some kv => rw [e] at ek; exact ⟨kv, rfl, Option.some.inj ek⟩
      obtain ⟨a, h1, h2⟩ := hrow
      have tl : ∀ b xs, H1 b = some (.tup xs) → H' b = some (.tup xs) := fun b xs e => sm _ _ e (ne_of e hl1 (fun z => nomatch z))
      have hi : i < t.sorted.length := (List.getElem?_eq_some_iff.mp ekv).1
      have lacc : (layFrom t (t.sorted.take i) []).length = i := by
        have := congrArg List.length (layFrom_snd t (t.sorted.take i) [])
        rw [List.length_map, List.map_nil, List.nil_append, List.length_take] at this
        omega
      have few := g.few
      refine ⟨r, _, rfl, SqT.of (tl _ _ h1), rfl, _, _, rfl, _, _, rfl, _, _, rfl, rfl, ?_⟩
      refine ⟨_, rfl, _, rfl, _, rfl, _, rfl, l, t.home kv.1, t.slots, ys, R, layFrom t (t.sorted.take i) [], rfl, hl', pq, pl, home_lt t kv.1 g.seed hs.1, by omega, fun j hj hf ht => ?_⟩
      have ly : ys.length = t.slots := by
        have := paired_len pq
        rw [pl.len] at this
        exact this.symm
      refine ⟨l, ys, _, (t.home kv.1 + j) % t.slots, rfl, rfl, hl', ixN_nat (by rw [ly]; exact Nat.mod_lt _ (by omega)), ?_⟩
      have tl2 : ∀ b xs, H' b = some (.tup xs) → upd H' l (.lst (ys.set ((t.home kv.1 + j) % t.slots) (.ref a))) b = some (.tup xs) := fun b xs e => by
        rw [upd_ne (ne_of e hl' (fun z => nomatch z))]
        exact e
      refine ⟨_, R.set ((t.home kv.1 + j) % t.slots) (some kv.1), _, _, _, rfl, upd_same, ?_, ?_, ?_⟩
      · have new : PV (upd H' l (.lst (ys.set ((t.home kv.1 + j) % t.slots) (.ref a)))) (some kv.1) (.ref a) := ⟨a, rfl, tl2 _ _ (tl _ _ h2)⟩
        exact paired_set new (paired_imp pq fun o v h => PV.keep h tl2) _
      · have et : t.sorted.take (i + 1) = t.sorted.take i ++ [kv] := by
          rw [List.take_succ, ekv]
          rfl
        have ef : layFrom t (t.sorted.take i ++ [kv]) [] = layFrom t (t.sorted.take i) [] ++ [(t.free (layFrom t (t.sorted.take i) []) kv.1, kv)] := List.foldl_append ..
        rw [et, ef, free_eq t _ kv.1 j hj hf ht]
        exact pl.set hf (Nat.mod_lt _ (by omega))
      · intro b o e n
        rw [upd_ne n]
        exact sm b o e n
    · rintro σ H' ⟨ys, R, x, y, z, rfl, hl', pq, pl, sm⟩
      rw [List.length_map, lrs, List.take_length] at pl
      exact ⟨_, rfl, q H' l ys R (fun b o e => sm _ _ (sH _ _ e) (ne_of_none e hlH)) hlH hl' pq pl⟩
end
end Hp
end
section
set_option Elab.async false
set_option linter.all false
set_option maxRecDepth 100000
set_option maxHeartbeats 2000000
namespace Hp
open PySem PySem.Spec PyProof.Rows L2 HpR HpS
/-! ### take, place, walk, move -/
abbrev sTTake : Stmt := inClass (top 27) 5
abbrev sTPlace : Stmt := inClass (top 27) 6
abbrev sTWalk : Stmt := inClass (top 27) 7
abbrev sTMove : Stmt := inClass (top 27) 8
theorem boot_lst : bootBuiltins "list" = some (.type "list") := by decide +kernel
section
variable {P : Program} {w : World} {K : PySem.W.Frag} {mg : Str → Option Value} {base : Heap}
def spTTake (C : Addr) : Sp := fun vs H Q _ => ∃ (p a : Addr) (t : Sp05.Abs) (k : List UInt8), vs = [.ref p, .ref a] ∧ TabAt C H p t ∧ H a = some (.tup (vb k)) ∧
  (∀ o, valOf t.keys k = some o → Out C p H (t.without k) [1, (o : Nat)] Q) ∧ (valOf t.keys k = none → Out C p H t [0, 0] Q)
theorem scTTake : FnScope ["self", "key"] ["self", "key"] (defScope sTTake) := ⟨rfl, rfl, rfl, by decide +kernel, rfl, by decide +kernel, by decide +kernel⟩
theorem ok_ttake {f C : Addr} {fd : FuncData} (F : Fun K "take" "Table.take" sTTake f fd) (T : TTxt K C) : FnOk P w K mg base CX0 1 f fd ["self", "key"] (spTTake C) := by
  refine F.ok scTTake (fun vs H Q E h => ?_) (fun cdv A outer s H vs Q E hr h => ?_)
  · obtain ⟨p, a, t, k, rfl, _⟩ := h
    rfl
  · obtain ⟨p, a, t, k, rfl, hT, ha, q1, q2⟩ := h
    have hT0 := hT
    obtain ⟨dx, d, hp, hd⟩ := hT
    have hu := hu_of hr
    have hk : H a = some (.tup ((kk k).map kV)) := by rw [kk_vb]; exact ha
    refine ⟨_, pss_cons (ps_if (pt_cmp (pc_din hu (pv 1) (pe_fld (pv 0) rfl)))
        (pss_one (ps_ret (pe_lst (pa_cons pe_int (pa_cons (pe_dpopT hu (pe_fld (pv 0) rfl) (pv 1) ⟨rfl, rfl, rfl, rfl⟩) pa_nil))))) pss_nil)
      (pss_one (ps_ret (pe_lst (pa_cons pe_int (pa_cons pe_int pa_nil))))), ?_⟩
    refine ⟨_, rfl, _, rfl, p, C, dx, _, _, rfl, hp, T.cl, T.nK, tf_kept _ _ _, d, _, rfl, DGet.t hd hk, _, rfl, ?_⟩
    have ev := enc_val k t.keys
    cases e : valOf t.keys k with
    | some o =>
      rw [e] at ev
      have ev : valV (enc t.keys) (kk k) = some (V.int (o : Nat)) := ev
      rw [ev]
      refine iteT ?_
      refine ⟨_, rfl, p, C, dx, _, _, rfl, hp, T.cl, T.nK, tf_kept _ _ _, d, rfl, .inr ⟨_, .inl hd⟩, _, rfl, enc t.keys, kk k, a, V.int (o : Nat), hd, rfl, hk, ev, ?_⟩
      rw [enc_drop]
      refine ⟨(by show 2 ≤ sizeLine; decide), fun l hl => ?_⟩
      obtain ⟨h1, h2, h3⟩ := tab_set (o := .lst [V.int 1, V.int (o : Nat)]) hp hd hl
      exact q1 o e _ l h1 h2 h3 upd_same
    | none =>
      rw [e] at ev
      have ev : valV (enc t.keys) (kk k) = none := ev
      rw [ev]
      refine iteF ?_
      refine ⟨(by show 2 ≤ sizeLine; decide), fun l hl => ?_⟩
      exact q2 e _ l (Same.tab (same_new hl) hT0) (Same.kept (same_new hl)) hl upd_same
def spTPlace (C : Addr) : Sp := fun vs H Q _ => ∃ (p a : Addr) (t : Sp05.Abs) (k : List UInt8), vs = [.ref p, .ref a] ∧ TabAt C H p t ∧ Sp05.Good t ∧ H a = some (.tup (vb k)) ∧
  (∀ n, t.place k = some n → Out C p H t [(n : Nat), 0] Q) ∧ (t.place k = none → Out C p H t [-1, 0] Q)
theorem scTPlace : FnScope ["self", "key"] ["self", "key"] (defScope sTPlace) := ⟨rfl, rfl, rfl, by decide +kernel, rfl, by decide +kernel, by decide +kernel⟩
theorem ok_tplace {f C fL fR : Addr} {fd dL dR : FuncData} (F : Fun K "place" "Table.place" sTPlace f fd) (T : TTxt K C) (FL : Fn K mg "laid" fL dL ["keys", "seed", "slots"]) (GL : FnOk P w K mg base CX0 4 fL dL ["keys", "seed", "slots"] spLaid)
    (FR : Fn K mg "refusal" fR dR []) (GR : FnOk P w K mg base CX0 1 fR dR [] spRef) : FnOk P w K mg base CX0 5 f fd ["self", "key"] (spTPlace C) := by
  refine F.ok scTPlace (fun vs H Q E h => ?_) (fun cdv A outer s H vs Q E hr h => ?_)
  · obtain ⟨p, a, t, k, rfl, _⟩ := h
    rfl
  · obtain ⟨p, a, t, k, rfl, hT, g, ha, q1, q2⟩ := h
    have hT0 := hT
    obtain ⟨dx, d, hp, hd⟩ := hT
    have hu := hu_of hr
    have hr1 : Room 1 _ := hr.mono (by decide)
    have hk : H a = some (.tup ((kk k).map kV)) := by rw [kk_vb]; exact ha
    refine ⟨_, pss_cons (ps_if (pt_cmp (pc_din hu (pv 1) (pe_fld (pv 0) rfl)))
        (pss_one (ps_ret (pe_lst (pa_cons (pe_bm PySem.F.plainAttrs_list PySem.F.slot_list_index PySem.F.type_list_index (mt_indexT hr.units)
            (pe_call GL hr rfl FL.mg FL.kp FL.b .nil pass0 (pa_cons (pe_fld (pv 0) rfl) (pa_cons (pe_fld (pv 0) rfl) (pa_cons (pe_fld (pv 0) rfl) pa_nil)))) (pa_cons (pv 1) pa_nil)) (pa_cons pe_int pa_nil))))) pss_nil)
      (pss_one (ps_ret (pe_call0 GR hr1 rfl FR.mg FR.kp FR.b .nil pass0))), ?_⟩
    refine ⟨_, rfl, _, rfl, p, C, dx, _, _, rfl, hp, T.cl, T.nK, tf_kept _ _ _, d, _, rfl, DGet.t hd hk, _, rfl, ?_⟩
    have ev := enc_val k t.keys
    cases e : valOf t.keys k with
    | some o =>
      rw [e] at ev
      have ev : valV (enc t.keys) (kk k) = some (V.int (o : Nat)) := ev
      rw [ev]
      refine iteT ?_
      refine ⟨_, rfl, p, C, dx, _, _, rfl, hp, T.cl, T.nK, tf_kept _ _ _, _, rfl, p, C, dx, _, _, rfl, hp, T.cl, T.nE, tf_seed _ _ _, _, rfl, p, C, dx, _, _, rfl, hp, T.cl, T.nO, tf_slots _ _ _, d, t, rfl, g, hd, fun H1 l0 ys R s1 hl0 hl1 pq pl => ?_⟩
      obtain ⟨n, hn, v, hv⟩ := place_some g.slots.1 (show t.value k = some o from e)
      have en := pl.full _ hv
      have pn := place_of g pl en
      refine ⟨.inl ⟨rfl, _, SqL.of hl1⟩, _, rfl, l0, a, ys, R, k, n, rfl, rfl, SqL.of hl1, pq, s1 _ _ ha, en, fun m hm z => ?_, (by show 2 ≤ sizeLine; decide), fun l hl => ?_⟩
      · have := place_once g pl z en
        omega
      · have s2 := s1.trans (same_new (o := .lst [V.int (n : Nat), V.int 0]) hl)
        exact q1 n pn _ l (Same.tab s2 hT0) (Same.kept s2) (s1.free hl) upd_same
    | none =>
      rw [e] at ev
      have ev : valV (enc t.keys) (kk k) = none := ev
      rw [ev]
      refine iteF ?_
      exact ⟨rfl, fun l hl => q2 (place_none e) _ l (Same.tab (same_new hl) hT0) (Same.kept (same_new hl)) hl upd_same⟩
def spTWalk (C : Addr) : Sp := fun vs H Q _ => ∃ (p : Addr) (t : Sp05.Abs) (z : Int), vs = [.ref p, .int z] ∧ TabAt C H p t ∧ Sp05.Good t ∧
  (∀ x, 0 ≤ z → t.at_ z.toNat = some x → Out C p H t ((x.1.length : Int) :: (x.2 : Int) :: x.1.map bI) Q) ∧ ((z < 0 ∨ t.at_ z.toNat = none) → Out C p H t [-1, 0] Q)
theorem scTWalk : FnScope ["self", "place", "key"] ["self", "place"] (defScope sTWalk) := ⟨rfl, rfl, rfl, by decide +kernel, rfl, by decide +kernel, by decide +kernel⟩
theorem ok_twalk {f C fL fR : Addr} {fd dL dR : FuncData} (F : Fun K "walk" "Table.walk" sTWalk f fd) (T : TTxt K C) (X : Txt mg) (hlst : mg "list" = none) (FL : Fn K mg "laid" fL dL ["keys", "seed", "slots"]) (GL : FnOk P w K mg base CX0 4 fL dL ["keys", "seed", "slots"] spLaid)
    (FR : Fn K mg "refusal" fR dR []) (GR : FnOk P w K mg base CX0 1 fR dR [] spRef) : FnOk P w K mg base CX0 5 f fd ["self", "place"] (spTWalk C) := by
  refine F.ok scTWalk (fun vs H Q E h => ?_) (fun cdv A outer s H vs Q E hr h => ?_)
  · obtain ⟨p, t, z, rfl, _⟩ := h
    rfl
  · obtain ⟨p, t, z, rfl, hT, g, q1, q2⟩ := h
    have hT0 := hT
    obtain ⟨dx, d, hp, hd⟩ := hT
    have hu := hu_of hr
    have hr1 : Room 1 _ := hr.mono (by decide)
    refine ⟨_, pss_cons (ps_if (PW.pt (pw_or (pt_cmpR op_lt (pv 1) pe_int (nomark _)) (pw_or1 (pt_cmpR op_ge (pv 1) (pe_fld (pv 0) rfl) (nomark _)))))
        (pss_one (ps_ret (pe_call0 GR hr1 rfl FR.mg FR.kp FR.b .nil pass0))) pss_nil)
      (pss_cons (ps_set (i := 2) scTWalk.nd rfl (Or.inl rfl) (pe_ix ix_list (pe_call GL hr rfl FL.mg FL.kp FL.b .nil pass0 (pa_cons (pe_fld (pv 0) rfl) (pa_cons (pe_fld (pv 0) rfl) (pa_cons (pe_fld (pv 0) rfl) pa_nil)))) (pv 1) (fun _ _ => rfl)))
      (pss_cons (ps_if (pt_cmp (pc_isN (pv 2))) (pss_one (ps_ret (pe_call0 GR hr1 rfl FR.mg FR.kp FR.b .nil pass0))) pss_nil)
      (pss_one (ps_ret (pe_op op_cat (pe_lst (pa_cons (pe_callB call_len_seq (by rfl) X.len PySem.boot_len (pa_cons (pv 2) pa_nil)) (pa_cons (pe_dget hu (pe_fld (pv 0) rfl) (pv 2) (fun _ _ => rfl)) pa_nil)))
        (pe_callTy call_list_of (by rfl) hlst boot_lst (pa_cons (pv 2) pa_nil))))))), ?_⟩
    have refuse : ∀ (σ : L2.St) (H1 : Hp), Same H H1 → (z < 0 ∨ t.at_ z.toNat = none) → tRet (tCall spRef [] E0 tNil) { nx := fun _ H' => Q .non H', rt := Q } σ H1 := fun σ H1 s1 hz =>
      ⟨rfl, fun l hl => q2 hz _ l (Same.tab (s1.trans (same_new hl)) hT0) (Same.kept (s1.trans (same_new hl))) (s1.free hl) upd_same⟩
    refine ⟨_, rfl, _, _, rfl, rfl, _, rfl, ite2 (fun c => ?_) (fun c => ?_)⟩
    · have c1 : z < 0 := of_decide_eq_true c
      exact iteT (refuse _ _ (Same.refl H) (.inl c1))
    · have c1 : ¬ z < 0 := fun y => c (decide_eq_true y)
      refine ⟨_, rfl, _, rfl, p, C, dx, _, _, rfl, hp, T.cl, T.nO, tf_slots _ _ _, _, _, rfl, rfl, _, rfl, ite2 (fun c2 => ?_) (fun c2 => ?_)⟩
      · have c3 : (t.slots : Int) ≤ z := of_decide_eq_true c2
        exact refuse _ _ (Same.refl H) (.inr (at_out g.slots.1 (by omega)))
      · have c3 : ¬ (t.slots : Int) ≤ z := fun y => c2 (decide_eq_true y)
        obtain ⟨n, rfl⟩ : ∃ n : Nat, z = n := ⟨z.toNat, (Int.toNat_of_nonneg (by omega)).symm⟩
        have hn : n < t.slots := by omega
        refine ⟨_, rfl, p, C, dx, _, _, rfl, hp, T.cl, T.nK, tf_kept _ _ _, _, rfl, p, C, dx, _, _, rfl, hp, T.cl, T.nE, tf_seed _ _ _, _, rfl, p, C, dx, _, _, rfl, hp, T.cl, T.nO, tf_slots _ _ _, d, t, rfl, g, hd, fun H1 l0 ys R s1 hl0 hl1 pq pl => ?_⟩
        obtain ⟨v, evv, gv⟩ := paired_get pq (pl.at_ n hn)
        refine ⟨_, rfl, l0, ys, _, v, rfl, rfl, SqL.of hl1, atI_nat evv, _, rfl, _, rfl, ?_⟩
        have en := pl.at_ n hn
        cases eo : laidAt t.layout n with
        | none =>
          rw [eo] at gv en
          have gv : v = .non := gv
          rw [decide_eq_true gv]
          exact iteT (refuse _ _ s1 (.inr (at_none pl en)))
        | some k =>
          rw [eo] at gv en
          obtain ⟨a, rfl, ha⟩ := gv
          have hk : H1 a = some (.tup ((kk k).map kV)) := by rw [kk_vb]; exact ha
          have hd1 := s1 _ _ hd
          have hp1 := s1 _ _ hp
          obtain ⟨o, e1, e2⟩ := at_some g pl en
          have ev := enc_val k t.keys
          have e2' : valOf t.keys k = some o := e2
          rw [e2'] at ev
          have ev : valV (enc t.keys) (kk k) = some (V.int (o : Nat)) := ev
          have hks : k.length ≤ 255 := g.short (k, o) (mem_of_value e2)
          have sz := sizeLine_eq
          refine iteF ?_
          refine ⟨_, rfl, a, vb k, rfl, .inr (SqT.of ha), _, rfl, p, C, dx, _, _, rfl, hp1, T.cl, T.nK, tf_kept _ _ _, _, rfl, d, V.int (o : Nat), rfl, (by rw [← ev]; exact DGet.t hd1 hk), (by show 2 ≤ sizeLine; decide), fun l1 hl1' => ?_⟩
          have s2 := same_new (o := .lst [V.int ((vb k).length : Nat), V.int (o : Nat)]) hl1'
          refine ⟨_, rfl, a, vb k, rfl, .inr (SqT.of (s2 _ _ ha)), fun l2 hl2 => ?_⟩
          have s3 := same_new (o := .lst (vb k)) hl2
          refine ⟨l1, l2, _, _, rfl, rfl, s3 _ _ upd_same, upd_same, (by show 2 + (vb k).length ≤ sizeLine; rw [vb_length, sz]; omega), fun l hl => ?_⟩
          have s4 := same_new (o := .lst ([V.int ((vb k).length : Nat), V.int (o : Nat)] ++ vb k)) hl
          have sa := ((s1.trans s2).trans s3).trans s4
          refine q1 (k, o) (by omega) (by rw [Int.toNat_natCast]; exact e1) _ l (Same.tab sa hT0) (Same.kept sa) (((s1.trans s2).trans s3).free hl) ?_
          rw [upd_same, vb_length, List.map_cons, List.map_cons, List.map_map]
          rfl
def spTMove (C : Addr) : Sp := fun vs H Q _ => ∃ (p : Addr) (t : Sp05.Abs) (n : Int), vs = [.ref p, .int n] ∧ TabAt C H p t ∧
  (Sp05.many n = true ∧ (t.keys.length : Int) ≤ n → Out C p H { t with slots := n.toNat } [0, 0] Q) ∧ (¬ (Sp05.many n = true ∧ (t.keys.length : Int) ≤ n) → Out C p H t [-1, 0] Q)
theorem scTMove : FnScope ["self", "slots"] ["self", "slots"] (defScope sTMove) := ⟨rfl, rfl, rfl, by decide +kernel, rfl, by decide +kernel, by decide +kernel⟩
theorem ok_tmove {f C fI fR : Addr} {fd dI dR : FuncData} (F : Fun K "move" "Table.move" sTMove f fd) (T : TTxt K C) (X : Txt mg) (FI : Fn K mg "is_number_of_places" fI dI ["slots"]) (GI : FnOk P w K mg base CX0 1 fI dI ["slots"] spIs)
    (FR : Fn K mg "refusal" fR dR []) (GR : FnOk P w K mg base CX0 1 fR dR [] spRef) : FnOk P w K mg base CX0 2 f fd ["self", "slots"] (spTMove C) := by
  refine F.ok scTMove (fun vs H Q E h => ?_) (fun cdv A outer s H vs Q E hr h => ?_)
  · obtain ⟨p, t, n, rfl, _⟩ := h
    rfl
  · obtain ⟨p, t, n, rfl, hT, q1, q2⟩ := h
    have hT0 := hT
    obtain ⟨dx, d, hp, hd⟩ := hT
    refine ⟨_, pss_cons (ps_if (PW.pt (pw_or (pt_not (pt_val (pe_call GI hr rfl FI.mg FI.kp FI.b .nil pass0 (pa_cons (pv 1) pa_nil))))
          (pw_or1 (pt_cmpR op_lt (pv 1) (pe_callB call_lenT (by rfl) X.len PySem.boot_len (pa_cons (pe_fld (pv 0) rfl) pa_nil)) (nomark _)))))
        (pss_one (ps_ret (pe_call0 GR hr rfl FR.mg FR.kp FR.b .nil pass0))) pss_nil)
      (pss_cons (ps_fld (pv 0) (pv 1) rfl) (pss_one (ps_ret (pe_lst (pa_cons pe_int (pa_cons pe_int pa_nil)))))), ?_⟩
    have refuse : ¬ (Sp05.many n = true ∧ (t.keys.length : Int) ≤ n) → tRet (tCall spRef [] E0 tNil) { nx := fun _ H' => Q .non H', rt := Q } [some (.ref p), some (.int n)] H := fun hm =>
      ⟨rfl, fun l hl => q2 hm _ l (Same.tab (same_new hl) hT0) (Same.kept (same_new hl)) hl upd_same⟩
    refine ⟨_, rfl, n, rfl, _, rfl, ite2 (fun c => ?_) (fun c => ?_)⟩
    · exact iteT (refuse (by intro z; rw [z.1] at c; cases c))
    · have hm : Sp05.many n = true := by
        cases e : Sp05.many n with
        | true => rfl
        | false => rw [e] at c; exact absurd rfl c
      have hmn := many_iff.mp hm
      refine ⟨_, rfl, _, rfl, p, C, dx, _, _, rfl, hp, T.cl, T.nK, tf_kept _ _ _, d, _, rfl, hd, _, _, rfl, rfl, _, rfl, ite2 (fun c2 => ?_) (fun c2 => ?_)⟩
      · have c3 : n < ((enc t.keys).length : Int) := of_decide_eq_true c2
        rw [enc_length] at c3
        exact refuse (by rintro ⟨_, z⟩; omega)
      · have c3 : ¬ n < ((enc t.keys).length : Int) := fun z => c2 (decide_eq_true z)
        rw [enc_length] at c3
        have hn : ((n.toNat : Nat) : Int) = n := Int.toNat_of_nonneg (by omega)
        refine ⟨_, rfl, _, rfl, p, C, dx, _, rfl, hp, T.cl, T.nO, (by show 3 < 1000; decide), (by show 2 ≤ sizeLine; decide), fun l hl => ?_⟩
        have e3 : putF "slots" (V.int n) (tf t.seed t.slots d) = tf t.seed n.toNat d := by
          show [(("seed" : Str), V.int (t.seed : Nat)), ("slots", V.int n), ("kept", V.ref d)] = [(("seed" : Str), V.int (t.seed : Nat)), ("slots", V.int (n.toNat : Nat)), ("kept", V.ref d)]
          rw [hn]
        rw [e3] at hl ⊢
        have hlp : l ≠ p := fun z => by subst z; rw [upd_same] at hl; cases hl
        have hln : H l = none := by rw [upd_ne hlp] at hl; exact hl
        have hdp : d ≠ p := ne_of hd hp (fun z => nomatch z)
        refine q1 ⟨hm, by omega⟩ _ l ⟨dx, d, ?_, ?_⟩ (fun b o e nb _ => ?_) hln upd_same
        · rw [upd_ne hlp.symm, upd_same]
        · rw [upd_ne (ne_of_none hd hln), upd_ne hdp]
          exact hd
        · rw [upd_ne (ne_of_none e hln), upd_ne nb]
          exact e
end
end Hp
end
section
set_option Elab.async false
set_option linter.all false
set_option maxRecDepth 100000
set_option maxHeartbeats 2000000
namespace Hp
open PySem PySem.Spec PyProof.Rows L2 HpR HpS
/-! ### answer_about_key -/
abbrev sKey : Stmt := top 29
abbrev sAnswer : Stmt := top 30
/-- the call numbers -/
structure Nums (mg : Str → Option Value) : Prop where
  init : ∃ t, mg "INIT" = some (.int 1 t)
  mix : ∃ t, mg "MIX" = some (.int 2 t)
  put : ∃ t, mg "PUT" = some (.int 3 t)
  get : ∃ t, mg "GET" = some (.int 4 t)
  take : ∃ t, mg "TAKE" = some (.int 5 t)
  place : ∃ t, mg "PLACE" = some (.int 6 t)
  walk : ∃ t, mg "WALK" = some (.int 7 t)
  move : ∃ t, mg "MOVE" = some (.int 8 t)
  most : ∃ t, mg "MOST_BYTES" = some (.int 255 t)
theorem But.rd {C p : Addr} {H H' : Hp} {r a : Addr} {n : Nat} (b : But p H H') (h : RdAt C H r a n) (ne : r ≠ p) : RdAt C H' r a n := by
  obtain ⟨dx, h⟩ := h
  exact ⟨dx, b _ _ h ne⟩
/-- the reader alone has changed: the table stays -/
theorem But.tab {C C' r dx : Addr} {fs : List (Str × V)} {H H' : Hp} {p : Addr} {t : Sp05.Abs} (b : But r H H') (hr : H r = some (.ins C' dx fs)) (ne : p ≠ r) (h : TabAt C H p t) : TabAt C H' p t := by
  obtain ⟨dx', d, h1, h2⟩ := h
  exact ⟨dx', d, b _ _ h1 ne, b _ _ h2 (ne_of h2 hr (fun z => nomatch z))⟩
theorem bytes_of {k : List Int} (h : k.all (fun z => Sp05Neutral.natural z 8) = true) : k.map V.int = vb (Sp05Neutral.octets k) := by
  unfold vb
  have e := bI_octets h
  have : (Sp05Neutral.octets k).map (fun b => V.int (bI b)) = ((Sp05Neutral.octets k).map bI).map V.int := by rw [List.map_map]; rfl
  rw [this, e]
theorem drop_at {ns : List Int} {n : Nat} {x : Int} {t : List Int} (h : ns.drop n = x :: t) : ns[n]? = some x ∧ ns.drop (n + 1) = t := by
  constructor
  · have := congrArg (fun l => l[0]?) h
    rw [List.getElem?_drop] at this
    exact this
  · have := congrArg List.tail h
    rw [List.tail_drop] at this
    exact this
/-- a test's two ways, by what they leave -/
theorem read_by {t : TE} {σ : L2.St} {H : Hp} {Q : VK} (Fa : V → Hp → Prop) (h : ∀ F : VK, (∀ v H', Fa v H' → F v H') → t σ H F) (k : ∀ v H', Fa v H' → Q v H') : t σ H Q := h Q k
/-- what is behind a call's number: n, the value of put, the key -/
def Behind (c : Int) (l : List Int) (cl : List (List Int)) (x v : Int) (k t : List Int) : Prop :=
  ((c = 2 ∨ c = 4 ∨ c = 5 ∨ c = 6) ∧ v = 0 ∧ l = x :: (k.length : Int) :: (k ++ t) ∧ cl = [[c, x], k]) ∨ (c = 3 ∧ l = x :: v :: (k.length : Int) :: (k ++ t) ∧ cl = [[3, x, v], k])
theorem asked_behind {c x v : Int} {l k t : List Int} {cl : List (List Int)} (b : Behind c l cl x v k t) (ha : Sp05Neutral.asked1 cl = true) : k.all (fun z => Sp05Neutral.natural z 8) = true ∧ Sp05Neutral.long k x 0 255 = true ∧ (0 ≤ v ∧ v < 2 ^ 64) := by
  rcases b with ⟨hc, rfl, _, rfl⟩ | ⟨rfl, _, rfl⟩
  · have h : ((k.all (fun z => Sp05Neutral.natural z 8) && Sp05Neutral.long k x 0 255) && Sp05Neutral.whole32 x) = true := by
      rcases hc with rfl | rfl | rfl | rfl <;> exact ha
    rw [Bool.and_eq_true, Bool.and_eq_true] at h
    exact ⟨h.1.1, h.1.2, by omega, by decide⟩
  · have h : ((k.all (fun z => Sp05Neutral.natural z 8) && Sp05Neutral.long k x 0 255) && (Sp05Neutral.whole32 x && Sp05Neutral.natural v 64)) = true := ha
    rw [Bool.and_eq_true, Bool.and_eq_true, Bool.and_eq_true] at h
    exact ⟨h.1.1, h.1.2, natural_iff.mp h.2.2⟩
theorem ifEq {i j : Int} {A B : Prop} (h : i = j) (a : A) : if decide (V.int i = V.int j) = true then A else B := by
  rw [if_pos (decide_eq_true (by rw [h]))]
  exact a
theorem ifNe {i j : Int} {A B : Prop} (h : i ≠ j) (b : B) : if decide (V.int i = V.int j) = true then A else B := by
  rw [if_neg (fun z => h (V.int.inj (of_decide_eq_true z)))]
  exact b
/-- what a call about a key comes to -/
theorem step_out {t : Sp05.Abs} {cl : List (List Int)} {x : Sp05.Call} {t' : Sp05.Abs} {an : Sp05.Ans} (h : Sp05Neutral.callOf cl = some x) (e : Sp05.spec (some t) x = (some t', an)) :
    Sp05Neutral.step (some t) cl = (some t', an.code :: (an.value : Int) :: an.key.map bI) := by
  rw [step_eq h, e]
  rfl
/-- n out of range -/
theorem step_bad {c x v : Int} {l k t : List Int} {cl : List (List Int)} {tt : Sp05.Abs} (b : Behind c l cl x v k t) (h : ¬ (0 ≤ x ∧ x ≤ 255)) : Sp05Neutral.step (some tt) cl = (some tt, [-1, 0]) := by
  have hf : Sp05.fair x = false := fair_false.mpr h
  have hf' : ¬ Sp05.fair x = true := by rw [hf]; exact Bool.false_ne_true
  rcases b with ⟨hc, rfl, _, rfl⟩ | ⟨rfl, _, rfl⟩
  · rcases hc with rfl | rfl | rfl | rfl
    · refine step_out (cl := [[2, x], k]) (x := .mix x (Sp05Neutral.octets k)) (an := Sp05.ok (-1)) rfl ?_
      rw [spec_mix, if_neg hf']
    · refine step_out (cl := [[4, x], k]) (x := .get x (Sp05Neutral.octets k)) (an := Sp05.ok (-1)) rfl ?_
      rw [spec_get, if_pos hf]
    · refine step_out (cl := [[5, x], k]) (x := .take x (Sp05Neutral.octets k)) (an := Sp05.ok (-1)) rfl ?_
      rw [spec_take, if_pos hf]
    · refine step_out (cl := [[6, x], k]) (x := .place x (Sp05Neutral.octets k)) (an := Sp05.ok (-1)) rfl ?_
      rw [spec_place, if_pos hf]
  · refine step_out (cl := [[3, x, v], k]) (x := .put x (Sp05Neutral.octets k) v.toNat) (an := Sp05.ok (-1)) rfl ?_
    rw [spec_put, if_pos hf]
section
variable {P : Program} {w : World} {K : PySem.W.Frag} {mg : Str → Option Value} {base : Heap}
/-- the ends that a call is asked for -/
def Told (K : PySem.W.Frag) (CT CR p r a : Addr) (ns t : List Int) (n : Nat) (H : Hp) (res : Option Sp05.Abs × List Int) (Q : VK) : Prop :=
  ∀ H' l n', Rel CT H' p res.1 → RdAt CR H' r a n' → ns.drop n' = t → n < n' → n' ≤ ns.length → Kept2 p r H H' → H l = none → H' l = some (.lst (res.2.map V.int)) → Q (.ref l) H'
def spKey (K : PySem.W.Frag) (CT CR : Addr) : Sp := fun vs H Q _ => ∃ (p r a : Addr) (n : Nat) (ns t k : List Int) (c x v : Int) (cl : List (List Int)) (tt : Sp05.Abs), vs = [.ref p, .int c, .ref r] ∧ TabAt CT H p tt ∧ Sp05.Good tt ∧ RdAt CR H r a n ∧ SqL K H a (ns.map V.int) ∧ p ≠ r ∧
  Behind c (ns.drop n) cl x v k t ∧ Sp05Neutral.asked1 cl = true ∧ Told K CT CR p r a ns t n H (Sp05Neutral.step (some tt) cl) Q
theorem scKey : FnScope ["table", "call", "reader", "n", "value", "key"] ["table", "call", "reader"] (defScope sKey) := ⟨rfl, rfl, rfl, by decide +kernel, rfl, by decide +kernel, by decide +kernel⟩
structure Meths (P : Program) (w : World) (K : PySem.W.Frag) (mg : Str → Option Value) (base : Heap) (CT CR : Addr) (fN fRow fInit fMix fPut fGet fTake fPlace fWalk fMove fRef : Addr) (dN dRow dInit dMix dPut dGet dTake dPlace dWalk dMove dRef : FuncData) : Prop where
  mN : Md K CR "number" fN dN ["self"]
  gN : FnOk P w K mg base CX0 1 fN dN ["self"] (spRNum K CR)
  mRow : Md K CR "row" fRow dRow ["self"]
  gRow : FnOk P w K mg base CX0 2 fRow dRow ["self"] (spRRow K CR)
  mInit : Md K CT "init" fInit dInit ["self", "seed", "slots"]
  gInit : FnOk P w K mg base CX0 2 fInit dInit ["self", "seed", "slots"] (spTInit CT)
  mMix : Md K CT "mix" fMix dMix ["self", "key"]
  gMix : FnOk P w K mg base CX0 3 fMix dMix ["self", "key"] (spTMix CT)
  mPut : Md K CT "put" fPut dPut ["self", "key", "value"]
  gPut : FnOk P w K mg base CX0 2 fPut dPut ["self", "key", "value"] (spTPut CT)
  mGet : Md K CT "get" fGet dGet ["self", "key"]
  gGet : FnOk P w K mg base CX0 1 fGet dGet ["self", "key"] (spTGet CT)
  mTake : Md K CT "take" fTake dTake ["self", "key"]
  gTake : FnOk P w K mg base CX0 1 fTake dTake ["self", "key"] (spTTake CT)
  mPlace : Md K CT "place" fPlace dPlace ["self", "key"]
  gPlace : FnOk P w K mg base CX0 5 fPlace dPlace ["self", "key"] (spTPlace CT)
  mWalk : Md K CT "walk" fWalk dWalk ["self", "place"]
  gWalk : FnOk P w K mg base CX0 5 fWalk dWalk ["self", "place"] (spTWalk CT)
  mMove : Md K CT "move" fMove dMove ["self", "slots"]
  gMove : FnOk P w K mg base CX0 2 fMove dMove ["self", "slots"] (spTMove CT)
  ref : Fn K mg "refusal" fRef dRef []
  gRef : FnOk P w K mg base CX0 1 fRef dRef [] spRef
/-- a method's answer is the call's -/
theorem out_told {K : PySem.W.Frag} {CT CR p r a : Addr} {ns t : List Int} {n n' : Nat} {H H1 : Hp} {t' : Sp05.Abs} {out : List Int} {Q : VK} (T : Told K CT CR p r a ns t n H (some t', out) Q) (b1 : ∀ b o, H b = some o → b ≠ r → H1 b = some o) (hR : RdAt CR H1 r a n') (ne : r ≠ p) (hd : ns.drop n' = t) (h1 : n < n') (h2 : n' ≤ ns.length) (hrn : ∃ o, H r = some o) : Out CT p H1 t' out Q := by
  intro H' l hT kp hl hl'
  refine T H' l n' hT ?_ hd h1 h2 (fun b o e e1 e2 e3 => kp b o (b1 b o e e2) e1 e3) ?_ hl'
  · obtain ⟨dx, hr⟩ := hR
    exact ⟨dx, kp _ _ hr ne (fun _ z => nomatch z)⟩
  · cases e : H l with
    | none => rfl
    | some o =>
      by_cases c : l = r
      · subst c
        obtain ⟨dx, hr⟩ := hR
        rw [hl] at hr
        cases hr
      · rw [b1 l o e c] at hl
        cases hl
theorem ok_key {CT CR f fN fRow fInit fMix fPut fGet fTake fPlace fWalk fMove fRef : Addr} {fd dN dRow dInit dMix dPut dGet dTake dPlace dWalk dMove dRef : FuncData} (F : Fun K "answer_about_key" "answer_about_key" sKey f fd) (TT : TTxt K CT) (RT : RTxt K CR) (N : Nums mg)
    (M : Meths P w K mg base CT CR fN fRow fInit fMix fPut fGet fTake fPlace fWalk fMove fRef dN dRow dInit dMix dPut dGet dTake dPlace dWalk dMove dRef) : FnOk P w K mg base CX0 6 f fd ["table", "call", "reader"] (spKey K CT CR) := by
  obtain ⟨t1, n1⟩ := N.mix
  obtain ⟨t2, n2⟩ := N.put
  obtain ⟨t3, n3⟩ := N.get
  obtain ⟨t4, n4⟩ := N.take
  obtain ⟨t5, n5⟩ := N.most
  refine F.ok scKey (fun vs H Q E h => ?_) (fun cdv A outer s H vs Q E hr h => ?_)
  · obtain ⟨p, r, a, n, ns, t, k, c, x, v, cl, tt, rfl, _⟩ := h
    rfl
  · obtain ⟨p, r, a, n, ns, t, k, c, x, v, cl, tt, rfl, hT, g, hR, hS, hpr, hb, hask, tell⟩ := h
    have hr1 : Room 1 _ := hr.mono (by decide)
    have hr2 : Room 2 _ := hr.mono (by decide)
    have hr3 : Room 3 _ := hr.mono (by decide)
    refine ⟨_, pss_cons (ps_set (i := 3) scKey.nd rfl (Or.inl rfl) (pe_meth0 (pv 2) RT.cl M.mN.me M.gN hr1 M.mN.b .nil pass0))
      (pss_cons (ps_set (i := 4) scKey.nd rfl (Or.inl rfl) (pe_ifExp (pt_cmpR op_eq (pv 1) (pe_glob rfl n2 (relI _ _)) (nomark _)) (pe_meth0 (pv 2) RT.cl M.mN.me M.gN hr1 M.mN.b .nil pass0) pe_int))
      (pss_cons (ps_set (i := 5) scKey.nd rfl (Or.inl rfl) (pe_meth0 (pv 2) RT.cl M.mRow.me M.gRow hr2 M.mRow.b .nil pass0))
      (pss_cons (ps_if (PW.pt (pw_or (pt_cmpR op_lt (pv 3) pe_int (nomark _)) (pw_or1 (pt_cmpR op_gt (pv 3) (pe_glob rfl n5 (relI _ _)) (nomark _))))) (pss_one (ps_ret (pe_call0 M.gRef hr1 rfl M.ref.mg M.ref.kp M.ref.b .nil pass0))) pss_nil)
      (pss_cons (ps_if (pt_cmpR op_eq (pv 1) (pe_glob rfl n1 (relI _ _)) (nomark _)) (pss_one (ps_ret (pe_meth (pv 0) TT.cl M.mMix.me M.gMix hr3 M.mMix.b .nil pass0 (pa_cons (pv 5) pa_nil)))) pss_nil)
      (pss_cons (ps_if (pt_cmpR op_eq (pv 1) (pe_glob rfl n2 (relI _ _)) (nomark _)) (pss_one (ps_ret (pe_meth (pv 0) TT.cl M.mPut.me M.gPut hr2 M.mPut.b .nil pass0 (pa_cons (pv 5) (pa_cons (pv 4) pa_nil))))) pss_nil)
      (pss_cons (ps_if (pt_cmpR op_eq (pv 1) (pe_glob rfl n3 (relI _ _)) (nomark _)) (pss_one (ps_ret (pe_meth (pv 0) TT.cl M.mGet.me M.gGet hr1 M.mGet.b .nil pass0 (pa_cons (pv 5) pa_nil)))) pss_nil)
      (pss_cons (ps_if (pt_cmpR op_eq (pv 1) (pe_glob rfl n4 (relI _ _)) (nomark _)) (pss_one (ps_ret (pe_meth (pv 0) TT.cl M.mTake.me M.gTake hr1 M.mTake.b .nil pass0 (pa_cons (pv 5) pa_nil)))) pss_nil)
      (pss_one (ps_ret (pe_meth (pv 0) TT.cl M.mPlace.me M.gPlace hr M.mPlace.b .nil pass0 (pa_cons (pv 5) pa_nil))))))))))), ?_⟩
    obtain ⟨kb, kl, kv⟩ := asked_behind hb hask
    obtain ⟨dxr, hr'⟩ := hR
    obtain ⟨lx, elx⟩ : ∃ l, ns.drop n = x :: l := by
      rcases hb with ⟨_, _, e, _⟩ | ⟨_, e, _⟩ <;> exact ⟨_, e⟩
    obtain ⟨ex, ed⟩ := drop_at elx
    -- n = reader.number()
    refine ⟨_, rfl, r, dxr, _, rfl, hr', rf_no a n (by decide +kernel) (by decide +kernel), r, a, n, ns, x, rfl, ⟨dxr, hr'⟩, hS, ex, fun H1 hR1 b1 => ?_⟩
    obtain ⟨dx1, hr1'⟩ := hR1
    have hS1 := b1.seq hr' hS
    -- value = reader.number() if call == PUT else 0
    refine read_by (t := tIf (tTest (tOp rEq (tVar 1) (tC (V.int 3)))) (tMeth CR "number" (spRNum K CR) [] E0 (tVar 2) tNil) (tC (V.int 0))) (fun u H2 => ∃ m : Nat, u = .int v ∧ RdAt CR H2 r a m ∧ But r H1 H2 ∧ ns.drop m = (k.length : Int) :: (k ++ t) ∧ n < m) (fun FF hF => ?_) ?_
    · refine ⟨_, rfl, rfl, _, rfl, ?_⟩
      rcases hb with ⟨hc, rfl, e, _⟩ | ⟨rfl, e, _⟩
      · rw [e] at elx
        cases elx
        exact ifNe (by omega) (hF _ _ ⟨n + 1, rfl, ⟨dx1, hr1'⟩, fun _ _ e _ => e, ed, by omega⟩)
      · rw [e] at elx
        cases elx
        obtain ⟨ev, ed2⟩ := drop_at ed
        exact ifEq rfl ⟨_, rfl, r, dx1, _, rfl, hr1', rf_no a (n + 1) (by decide +kernel) (by decide +kernel), r, a, n + 1, ns, v, rfl, ⟨dx1, hr1'⟩, hS1, ev, fun H2 hR2 b2 => hF _ _ ⟨n + 1 + 1, rfl, hR2, b2, ed2, by omega⟩⟩
    · rintro u H2 ⟨m, rfl, hR2, b2, ed2, hnm⟩
      obtain ⟨dx2, hr2'⟩ := hR2
      have hS2 := b2.seq hr1' hS1
      -- key = reader.row()
      refine ⟨_, rfl, r, dx2, _, rfl, hr2', rf_no a m (by decide +kernel) (by decide +kernel), r, a, m, ns, k, t, rfl, ⟨dx2, hr2'⟩, hS2, ed2, fun H3 kp hR3 b3 _ hkp => ?_⟩
      have b13 : But r H H3 := (b1.trans b2).trans b3
      have hT3 := b13.tab hr' hpr hT
      have ed3 : ns.drop (m + 1 + k.length) = t := by
        have := (drop_at ed2).2
        rw [← List.drop_drop, this, List.drop_left]
      have hle : m + 1 + k.length ≤ ns.length := by
        have := congrArg List.length ed2
        rw [List.length_drop, List.length_cons, List.length_append] at this
        omega
      rw [bytes_of kb] at hkp
      have O : ∀ t' out, Sp05Neutral.step (some tt) cl = (some t', out) → Out CT p H3 t' out Q := fun t' out e => by
        rw [e] at tell
        exact out_told tell (fun b o e ne => b13 b o e ne) hR3 hpr.symm ed3 (by omega) hle ⟨_, hr'⟩
      have refuse : ¬ (0 ≤ x ∧ x ≤ 255) → ∀ σ : L2.St, tRet (tCall spRef [] E0 tNil) { nx := fun _ H' => Q .non H', rt := Q } σ H3 := fun hx σ =>
        ⟨rfl, fun l hl => O tt _ (step_bad hb hx) _ l (Same.tab (same_new hl) hT3) (Same.kept (same_new hl)) hl upd_same⟩
      have hlen : (Sp05Neutral.octets k).length ≤ 255 := key_short kl
      obtain ⟨dxp, d, hp3, hd3⟩ := id hT3
      have no : ∀ {mm : Str}, (mm == ("seed" : Str)) = false → (mm == ("slots" : Str)) = false → (mm == ("kept" : Str)) = false → (tf tt.seed tt.slots d).lookup mm = none := fun h1 h2 h3 => tf_no _ _ _ h1 h2 h3
      have few : tt.keys.length ≤ 128 := Nat.le_trans g.few g.slots.2
      refine ⟨_, rfl, _, _, rfl, rfl, _, rfl, ite2 (fun c1 => ?_) (fun c1 => ?_)⟩
      · have c2 : x < 0 := of_decide_eq_true c1
        exact iteT (refuse (by omega) _)
      · have c2 : ¬ x < 0 := fun z => c1 (decide_eq_true z)
        refine ⟨_, rfl, _, _, rfl, rfl, _, rfl, ite2 (fun c3 => ?_) (fun c3 => ?_)⟩
        · have c4 : (255 : Int) < x := of_decide_eq_true c3
          exact refuse (by omega) _
        · have c4 : ¬ (255 : Int) < x := fun z => c3 (decide_eq_true z)
          have hf : Sp05.fair x = true := fair_iff.mpr ⟨by omega, by omega⟩
          have hf' : ¬ Sp05.fair x = false := by rw [hf]; exact fun z => nomatch z
          rcases hb with ⟨hc, rfl, _, rfl⟩ | ⟨rfl, _, rfl⟩
          · rcases hc with rfl | rfl | rfl | rfl
            · -- mix
              refine ⟨_, rfl, rfl, _, rfl, ifEq rfl ?_⟩
              refine ⟨_, rfl, p, dxp, _, rfl, hp3, no (by decide +kernel) (by decide +kernel) (by decide +kernel), _, rfl, p, kp, tt, Sp05Neutral.octets k, rfl, hT3, g.seed, hlen, hkp, ?_⟩
              exact O _ _ (step_out (x := .mix x (Sp05Neutral.octets k)) rfl (by rw [spec_mix, if_pos hf]))
            · -- get
              refine ⟨_, rfl, rfl, _, rfl, ifNe (by decide) ⟨_, rfl, rfl, _, rfl, ifNe (by decide) ⟨_, rfl, rfl, _, rfl, ifEq rfl ?_⟩⟩⟩
              refine ⟨_, rfl, p, dxp, _, rfl, hp3, no (by decide +kernel) (by decide +kernel) (by decide +kernel), _, rfl, p, kp, tt, Sp05Neutral.octets k, rfl, hT3, hkp, fun o e => ?_, fun e => ?_⟩
              · have e : tt.value (Sp05Neutral.octets k) = some o := e
                exact O _ _ (step_out (x := .get x (Sp05Neutral.octets k)) rfl (by rw [spec_get, if_neg hf', e]))
              · have e : tt.value (Sp05Neutral.octets k) = none := e
                exact O _ _ (step_out (x := .get x (Sp05Neutral.octets k)) rfl (by rw [spec_get, if_neg hf', e]))
            · -- take
              refine ⟨_, rfl, rfl, _, rfl, ifNe (by decide) ⟨_, rfl, rfl, _, rfl, ifNe (by decide) ⟨_, rfl, rfl, _, rfl, ifNe (by decide) ⟨_, rfl, rfl, _, rfl, ifEq rfl ?_⟩⟩⟩⟩
              refine ⟨_, rfl, p, dxp, _, rfl, hp3, no (by decide +kernel) (by decide +kernel) (by decide +kernel), _, rfl, p, kp, tt, Sp05Neutral.octets k, rfl, hT3, hkp, fun o e => ?_, fun e => ?_⟩
              · have e : tt.value (Sp05Neutral.octets k) = some o := e
                exact O _ _ (step_out (x := .take x (Sp05Neutral.octets k)) rfl (by rw [spec_take, if_neg hf', e]))
              · have e : tt.value (Sp05Neutral.octets k) = none := e
                exact O _ _ (step_out (x := .take x (Sp05Neutral.octets k)) rfl (by rw [spec_take, if_neg hf', e]))
            · -- place
              refine ⟨_, rfl, rfl, _, rfl, ifNe (by decide) ⟨_, rfl, rfl, _, rfl, ifNe (by decide) ⟨_, rfl, rfl, _, rfl, ifNe (by decide) ⟨_, rfl, rfl, _, rfl, ifNe (by decide) ?_⟩⟩⟩⟩
              refine ⟨_, rfl, p, dxp, _, rfl, hp3, no (by decide +kernel) (by decide +kernel) (by decide +kernel), _, rfl, p, kp, tt, Sp05Neutral.octets k, rfl, hT3, g, hkp, fun o e => ?_, fun e => ?_⟩
              · exact O _ _ (step_out (x := .place x (Sp05Neutral.octets k)) rfl (by rw [spec_place, if_neg hf', e]))
              · exact O _ _ (step_out (x := .place x (Sp05Neutral.octets k)) rfl (by rw [spec_place, if_neg hf', e]))
          · -- put
            have hv : ((v.toNat : Nat) : Int) = v := Int.toNat_of_nonneg kv.1
            refine ⟨_, rfl, rfl, _, rfl, ifNe (by decide) ⟨_, rfl, rfl, _, rfl, ifEq rfl ?_⟩⟩
            refine ⟨_, rfl, p, dxp, _, rfl, hp3, no (by decide +kernel) (by decide +kernel) (by decide +kernel), _, rfl, _, rfl, p, kp, tt, Sp05Neutral.octets k, v.toNat, ?_, hT3, few, hkp, fun o e => ?_, fun e => ⟨fun le => ?_, fun lt => ?_⟩⟩
            · rw [hv]
              rfl
            · have e : tt.value (Sp05Neutral.octets k) = some o := e
              exact O _ _ (step_out (x := .put x (Sp05Neutral.octets k) v.toNat) rfl (by rw [spec_put, if_neg hf', e]))
            · have e : tt.value (Sp05Neutral.octets k) = none := e
              have fw := g.few
              exact O _ _ (step_out (x := .put x (Sp05Neutral.octets k) v.toNat) rfl (by rw [spec_put, if_neg hf', e]; exact if_pos (by omega)))
            · have e : tt.value (Sp05Neutral.octets k) = none := e
              exact O _ _ (step_out (x := .put x (Sp05Neutral.octets k) v.toNat) rfl (by rw [spec_put, if_neg hf', e]; exact if_neg (by omega)))
end
end Hp
end
section
set_option Elab.async false
set_option linter.all false
set_option maxRecDepth 100000
set_option maxHeartbeats 2000000
namespace Hp
open PySem PySem.Spec PyProof.Rows L2 HpR HpS
/-! ### answer -/
section
variable {P : Program} {w : World} {K : PySem.W.Frag} {mg : Str → Option Value} {base : Heap}
theorem scAnswer : FnScope ["table", "reader", "call", "seed", "slots"] ["table", "reader"] (defScope sAnswer) := ⟨rfl, rfl, rfl, by decide +kernel, rfl, by decide +kernel, by decide +kernel⟩
theorem Rel.tab {C : Addr} {H : Hp} {p : Addr} {st : Option Sp05.Abs} (h : Rel C H p st) : ∃ t, TabAt C H p t ∧ (∀ t', st = some t' → t = t') := by
  cases st with
  | none => exact ⟨_, h, fun _ z => nomatch z⟩
  | some t => exact ⟨t, h, fun _ z => Option.some.inj z⟩
theorem ok_answer {CT CR f fK fN fRow fInit fMix fPut fGet fTake fPlace fWalk fMove fRef : Addr} {fd dK dN dRow dInit dMix dPut dGet dTake dPlace dWalk dMove dRef : FuncData} (F : Fun K "answer" "answer" sAnswer f fd) (TT : TTxt K CT) (RT : RTxt K CR) (N : Nums mg)
    (M : Meths P w K mg base CT CR fN fRow fInit fMix fPut fGet fTake fPlace fWalk fMove fRef dN dRow dInit dMix dPut dGet dTake dPlace dWalk dMove dRef) (FK : Fn K mg "answer_about_key" fK dK ["table", "call", "reader"]) (GK : FnOk P w K mg base CX0 6 fK dK ["table", "call", "reader"] (spKey K CT CR)) :
    FnOk P w K mg base CX0 7 f fd ["table", "reader"] (spAnswer K CT CR) := by
  obtain ⟨t1, n1⟩ := N.init
  obtain ⟨t2, n2⟩ := N.mix
  obtain ⟨t3, n3⟩ := N.put
  obtain ⟨t4, n4⟩ := N.get
  obtain ⟨t5, n5⟩ := N.take
  obtain ⟨t6, n6⟩ := N.place
  obtain ⟨t7, n7⟩ := N.walk
  obtain ⟨t8, n8⟩ := N.move
  refine F.ok scAnswer (fun vs H Q E h => ?_) (fun cdv A outer s H vs Q E hr h => ?_)
  · obtain ⟨p, r, a, n, ns, t, c, st, rfl, _⟩ := h
    rfl
  · obtain ⟨p, r, a, n, ns, t, c, st, rfl, hT, fit, hR, hS, one, hask, hbeg, tell⟩ := h
    have hr1 : Room 1 _ := hr.mono (by decide)
    have hr2 : Room 2 _ := hr.mono (by decide)
    have hr5 : Room 5 _ := hr.mono (by decide)
    refine ⟨_, pss_cons (ps_set (i := 2) scAnswer.nd rfl (Or.inl rfl) (pe_meth0 (pv 1) RT.cl M.mN.me M.gN hr1 M.mN.b .nil pass0))
      (pss_cons (ps_if (pt_cmpR op_eq (pv 2) (pe_glob rfl n1 (relI _ _)) (nomark _))
        (pss_cons (ps_set (i := 3) scAnswer.nd rfl (Or.inl rfl) (pe_meth0 (pv 1) RT.cl M.mN.me M.gN hr1 M.mN.b .nil pass0))
        (pss_cons (ps_set (i := 4) scAnswer.nd rfl (Or.inl rfl) (pe_meth0 (pv 1) RT.cl M.mN.me M.gN hr1 M.mN.b .nil pass0))
        (pss_one (ps_ret (pe_meth (pv 0) TT.cl M.mInit.me M.gInit hr2 M.mInit.b .nil pass0 (pa_cons (pv 3) (pa_cons (pv 4) pa_nil))))))) pss_nil)
      (pss_cons (ps_if (pt_cmpR op_in_seq (pv 2) (pe_tup (pa_cons (pe_glob rfl n2 (relI _ _)) (pa_cons (pe_glob rfl n3 (relI _ _)) (pa_cons (pe_glob rfl n4 (relI _ _)) (pa_cons (pe_glob rfl n5 (relI _ _)) (pa_cons (pe_glob rfl n6 (relI _ _)) pa_nil)))))) (by with_unfolding_all rfl))
        (pss_one (ps_ret (pe_call GK hr rfl FK.mg FK.kp FK.b .nil pass0 (pa_cons (pv 0) (pa_cons (pv 2) (pa_cons (pv 1) pa_nil)))))) pss_nil)
      (pss_cons (ps_if (pt_cmpR op_eq (pv 2) (pe_glob rfl n7 (relI _ _)) (nomark _)) (pss_one (ps_ret (pe_meth (pv 0) TT.cl M.mWalk.me M.gWalk hr5 M.mWalk.b .nil pass0 (pa_cons (pe_meth0 (pv 1) RT.cl M.mN.me M.gN hr1 M.mN.b .nil pass0) pa_nil)))) pss_nil)
      (pss_cons (ps_if (pt_cmpR op_eq (pv 2) (pe_glob rfl n8 (relI _ _)) (nomark _)) (pss_one (ps_ret (pe_meth (pv 0) TT.cl M.mMove.me M.gMove hr2 M.mMove.b .nil pass0 (pa_cons (pe_meth0 (pv 1) RT.cl M.mN.me M.gN hr1 M.mN.b .nil pass0) pa_nil)))) pss_nil)
      (pss_one ps_never))))), ?_⟩
    obtain ⟨dxr, hr'⟩ := hR
    obtain ⟨tt, hTT, htt⟩ := hT.tab
    have hpr : p ≠ r := fun z => by
      subst z
      obtain ⟨dx, d, h1, _⟩ := hTT
      rw [hr'] at h1
      cases h1
    have tell : Told K CT CR p r a ns t n H (Sp05Neutral.step st c) Q := tell
    -- what was read leaves the table
    have keep : ∀ {H1 : Hp}, But r H H1 → TabAt CT H1 p tt := fun b => b.tab hr' hpr hTT
    obtain ⟨y0, lx, elx⟩ : ∃ x l, ns.drop n = x :: l := by
      generalize ns.drop n = L at one
      cases one <;> exact ⟨_, _, rfl⟩
    obtain ⟨ex, ed⟩ := drop_at elx
    have hrd : ∀ (m : Nat) (H1 : Hp) (dx1 : Addr), H1 r = some (.ins CR dx1 (rf a m)) → (rf a m).lookup ("number" : Str) = none := fun m _ _ _ => rf_no a m (by decide +kernel) (by decide +kernel)
    have len : ∀ {m : Nat} {u : List Int}, ns.drop m = u → u ≠ [] → m < ns.length := fun {m u} e nu => by
      have := congrArg List.length e
      rw [List.length_drop] at this
      cases u with
      | nil => exact absurd rfl nu
      | cons _ _ => rw [List.length_cons] at this; omega
    refine ⟨_, rfl, r, dxr, _, rfl, hr', rf_no a n (by decide +kernel) (by decide +kernel), r, a, n, ns, y0, rfl, ⟨dxr, hr'⟩, hS, ex, fun H1 hR1 b1 => ?_⟩
    obtain ⟨dx1, hr1'⟩ := hR1
    have hS1 := b1.seq hr' hS
    have hl0 := len elx (by simp)
    generalize el : ns.drop n = L at one
    rw [elx] at el
    cases one with
    | init sd sl t =>
      injection el with e1 e2
      have e1 := e1.symm
      have e2 := e2.symm
      subst e1 e2
      refine ⟨_, rfl, rfl, _, rfl, ifEq rfl ?_⟩
      obtain ⟨ex1, ed1⟩ := drop_at ed
      refine ⟨_, rfl, r, dx1, _, rfl, hr1', hrd _ _ _ hr1', r, a, n + 1, ns, sd, rfl, ⟨dx1, hr1'⟩, hS1, ex1, fun H2 hR2 b2 => ?_⟩
      obtain ⟨dx2, hr2'⟩ := hR2
      have hS2 := b2.seq hr1' hS1
      obtain ⟨ex2, ed2⟩ := drop_at ed1
      have hl2 := len ed1 (by simp)
      refine ⟨_, rfl, r, dx2, _, rfl, hr2', hrd _ _ _ hr2', r, a, n + 1 + 1, ns, sl, rfl, ⟨dx2, hr2'⟩, hS2, ex2, fun H3 hR3 b3 => ?_⟩
      have b13 : But r H H3 := (b1.trans b2).trans b3
      have hT3 := keep b13
      obtain ⟨dxp, d, hp3, hd3⟩ := id hT3
      have ask : Sp05Neutral.natural sd 64 = true ∧ Sp05Neutral.whole32 sl = true := by
        rw [← Bool.and_eq_true]
        exact hask
      have hsd := natural_iff.mp ask.1
      have hsd' : ((sd.toNat : Nat) : Int) = sd := Int.toNat_of_nonneg hsd.1
      have O : ∀ t' out, Sp05Neutral.step st [[1, sd, sl]] = (some t', out) → Out CT p H3 t' out Q := fun t' out e => by
        rw [e] at tell
        exact out_told tell (fun b o e ne => b13 b o e ne) hR3 hpr.symm ed2 (by omega) (by omega) ⟨_, hr'⟩
      refine ⟨_, rfl, p, dxp, _, rfl, hp3, tf_no _ _ _ (by decide +kernel) (by decide +kernel) (by decide +kernel), _, rfl, _, rfl, p, tt, sd.toNat, sl, ?_, hT3, fun hm => ?_, fun hm => ?_⟩
      · rw [hsd']
        rfl
      · refine O _ _ ?_
        rw [step_eq (x := .init sd.toNat sl) rfl, spec_init, if_pos hm]
        rfl
      · cases st with
        | none =>
          have : Sp05.many sl = true := hbeg rfl
          exact absurd this hm
        | some t' =>
          have e := htt t' rfl
          subst e
          refine O _ _ ?_
          rw [step_eq (x := .init sd.toNat sl) rfl, spec_init, if_neg hm]
          rfl
    | key c x k t hc =>
      injection el with e1 e2
      have e1 := e1.symm
      have e2 := e2.symm
      subst e1 e2
      cases st with
      | none =>
        have := hbeg rfl
        rcases hc with rfl | rfl | rfl | rfl <;> cases this
      | some t' =>
        have e := htt t' rfl
        subst e
        have g := fit _ rfl
        refine ⟨_, rfl, rfl, _, rfl, ifNe (by omega) ?_⟩
        refine ⟨_, rfl, (by show 5 ≤ sizeLine; decide), fun T hT => ?_⟩
        have s2 := same_new (o := .tup [V.int 2, V.int 3, V.int 4, V.int 5, V.int 6]) hT
        have hin : inV (.int c) [V.int 2, V.int 3, V.int 4, V.int 5, V.int 6] = true := by
          rcases hc with rfl | rfl | rfl | rfl <;> rfl
        refine ⟨T, _, rfl, .inr (SqT.of upd_same), rfl, rfl, _, rfl, ?_⟩
        simp only [Bool.false_eq_true, if_false]
        rw [hin]
        refine iteT ⟨_, rfl, _, rfl, _, rfl, p, r, a, n + 1, ns, t, k, c, x, 0, [[c, x], k], tt, rfl, Same.tab s2 (keep b1), g, ⟨dx1, s2 _ _ hr1'⟩, s2.seq hS1, hpr, .inl ⟨hc, rfl, ed, rfl⟩, hask, fun H' l n' r1 r2 r3 r4 r5 r6 r7 r8 => ?_⟩
        have hb : ∀ b o, H b = some o → b ≠ r → upd H1 T (.tup [V.int 2, V.int 3, V.int 4, V.int 5, V.int 6]) b = some o := fun b o e nr => s2 _ _ (b1 b o e nr)
        refine tell H' l n' r1 r2 r3 (by omega) r5 (fun b o e e1 e2 e3 => r6 b o (hb b o e e2) e1 e2 e3) ?_ r8
        cases q : H l with
        | none => rfl
        | some o =>
          by_cases z : l = r
          · subst z
            rw [s2 _ _ hr1'] at r7
            cases r7
          · rw [hb l o q z] at r7
            cases r7
    | put x v k t =>
      injection el with e1 e2
      have e1 := e1.symm
      have e2 := e2.symm
      subst e1 e2
      cases st with
      | none =>
        have := hbeg rfl
        cases this
      | some t' =>
        have e := htt t' rfl
        subst e
        have g := fit _ rfl
        refine ⟨_, rfl, rfl, _, rfl, ifNe (by omega) ?_⟩
        refine ⟨_, rfl, (by show 5 ≤ sizeLine; decide), fun T hT => ?_⟩
        have s2 := same_new (o := .tup [V.int 2, V.int 3, V.int 4, V.int 5, V.int 6]) hT
        refine ⟨T, _, rfl, .inr (SqT.of upd_same), rfl, rfl, _, rfl, ?_⟩
        have hin : inV (.int 3) [V.int 2, V.int 3, V.int 4, V.int 5, V.int 6] = true := rfl
        simp only [Bool.false_eq_true, if_false]
        rw [hin]
        refine iteT ⟨_, rfl, _, rfl, _, rfl, p, r, a, n + 1, ns, t, k, 3, x, v, [[3, x, v], k], tt, rfl, Same.tab s2 (keep b1), g, ⟨dx1, s2 _ _ hr1'⟩, s2.seq hS1, hpr, .inr ⟨rfl, ed, rfl⟩, hask, fun H' l n' r1 r2 r3 r4 r5 r6 r7 r8 => ?_⟩
        have hb : ∀ b o, H b = some o → b ≠ r → upd H1 T (.tup [V.int 2, V.int 3, V.int 4, V.int 5, V.int 6]) b = some o := fun b o e nr => s2 _ _ (b1 b o e nr)
        refine tell H' l n' r1 r2 r3 (by omega) r5 (fun b o e e1 e2 e3 => r6 b o (hb b o e e2) e1 e2 e3) ?_ r8
        cases q : H l with
        | none => rfl
        | some o =>
          by_cases z : l = r
          · subst z
            rw [s2 _ _ hr1'] at r7
            cases r7
          · rw [hb l o q z] at r7
            cases r7
    | num c x t hc =>
      injection el with e1 e2
      have e1 := e1.symm
      have e2 := e2.symm
      subst e1 e2
      cases st with
      | none =>
        have := hbeg rfl
        rcases hc with rfl | rfl <;> cases this
      | some t' =>
        have e := htt t' rfl
        subst e
        have g := fit _ rfl
        obtain ⟨ex1, ed1⟩ := drop_at ed
        have hl1 := len ed (by simp)
        refine ⟨_, rfl, rfl, _, rfl, ifNe (by omega) ?_⟩
        refine ⟨_, rfl, (by show 5 ≤ sizeLine; decide), fun T hT => ?_⟩
        have s2 := same_new (o := .tup [V.int 2, V.int 3, V.int 4, V.int 5, V.int 6]) hT
        have hin : inV (.int c) [V.int 2, V.int 3, V.int 4, V.int 5, V.int 6] = false := by
          rcases hc with rfl | rfl <;> rfl
        refine ⟨T, _, rfl, .inr (SqT.of upd_same), rfl, rfl, _, rfl, ?_⟩
        simp only [Bool.false_eq_true, if_false]
        rw [hin]
        refine iteF ?_
        have hb2 : But r H (upd H1 T (.tup [V.int 2, V.int 3, V.int 4, V.int 5, V.int 6])) := fun b o e nr => s2 _ _ (b1 b o e nr)
        have hr2' := s2 _ _ hr1'
        have hS2 := s2.seq hS1
        obtain ⟨dxp, d, hp2, hd2⟩ := keep hb2
        have O : ∀ (H3 : Hp), RdAt CR H3 r a (n + 1 + 1) → But r (upd H1 T (.tup [V.int 2, V.int 3, V.int 4, V.int 5, V.int 6])) H3 → ∀ t' out, Sp05Neutral.step (some tt) [[c, x]] = (some t', out) → Out CT p H3 t' out Q := fun H3 hR3 b3 t' out e => by
          rw [e] at tell
          exact out_told tell (fun b o e ne => b3 b o (hb2 b o e ne) ne) hR3 hpr.symm ed1 (by omega) (by omega) ⟨_, hr'⟩
        rcases hc with rfl | rfl
        · -- walk
          refine ⟨_, rfl, rfl, _, rfl, ifEq rfl ?_⟩
          refine ⟨_, rfl, p, dxp, _, rfl, hp2, tf_no _ _ _ (by decide +kernel) (by decide +kernel) (by decide +kernel), _, rfl, r, dx1, _, rfl, hr2', hrd _ _ _ hr2', r, a, n + 1, ns, x, rfl, ⟨dx1, hr2'⟩, hS2, ex1, fun H3 hR3 b3 => ?_⟩
          refine ⟨p, tt, x, rfl, keep (hb2.trans b3), g, fun y hx ey => ?_, fun hx => ?_⟩
          · refine O H3 hR3 b3 _ _ (step_out (x := .walk x) rfl (an := ⟨(y.1.length : Int), y.2, y.1⟩) ?_)
            rw [spec_walk, if_neg (by omega), ey]
          · refine O H3 hR3 b3 _ _ (step_out (x := .walk x) rfl (an := Sp05.ok (-1)) ?_)
            rw [spec_walk]
            by_cases z : x < 0
            · rw [if_pos z]
            · rw [if_neg z, hx.resolve_left z]
        · -- move
          refine ⟨_, rfl, rfl, _, rfl, ifNe (by decide) ⟨_, rfl, rfl, _, rfl, ifEq rfl ?_⟩⟩
          refine ⟨_, rfl, p, dxp, _, rfl, hp2, tf_no _ _ _ (by decide +kernel) (by decide +kernel) (by decide +kernel), _, rfl, r, dx1, _, rfl, hr2', hrd _ _ _ hr2', r, a, n + 1, ns, x, rfl, ⟨dx1, hr2'⟩, hS2, ex1, fun H3 hR3 b3 => ?_⟩
          refine ⟨p, tt, x, rfl, keep (hb2.trans b3), fun hx => ?_, fun hx => ?_⟩
          · refine O H3 hR3 b3 _ _ (step_out (x := .move x) rfl (an := Sp05.ok 0) ?_)
            rw [spec_move, if_pos hx]
          · refine O H3 hR3 b3 _ _ (step_out (x := .move x) rfl (an := Sp05.ok (-1)) ?_)
            rw [spec_move, if_neg hx]
end
end Hp
end
section
set_option linter.all false
set_option maxRecDepth 100000
set_option maxHeartbeats 8000000
namespace Hp
open PySem PySem.Spec PyProof.Rows L2 HpR HpS
theorem all_mk {P : Program} {w : World} {K : PySem.W.Frag} {h : Heap} {mg : Str → Option Value} {fa f_fold f_rot f_eight f_mix f_home f_ord f_nxt f_laid f_is f_ref f_key f_ans1 f_ans f_ti f_tinit f_tmix f_tput f_tget f_ttake f_tplace f_twalk f_tmove f_ri f_rmore f_rnum f_rrow C_T C_R : Addr} (X : K.In h) (G : h.Ns mainGlobals mg) (hfa : mg "answers" = some (.ref fa))
    {od_fold an_fold od_rot an_rot od_eight an_eight od_mix an_mix od_home an_home od_ord an_ord od_nxt an_nxt od_laid an_laid od_is an_is od_ref an_ref od_key an_key od_ans1 an_ans1 od_ans an_ans od_ti an_ti od_tinit an_tinit od_tmix an_tmix od_tput an_tput od_tget an_tget od_ttake an_ttake od_tplace an_tplace od_twalk an_twalk od_tmove an_tmove od_ri an_ri od_rmore an_rmore od_rnum an_rnum od_rrow an_rrow : Option Addr}
    {sl_fold sl_rot sl_eight sl_mix sl_home sl_ord sl_nxt sl_laid sl_is sl_ref sl_key sl_ans1 sl_ans sl_ti sl_tinit sl_tmix sl_tput sl_tget sl_ttake sl_tplace sl_twalk sl_tmove sl_ri sl_rmore sl_rnum sl_rrow : Array (Option Value)}
    {oc_fold kV_fold dc_fold pm_fold cd_fold ct_fold oc_rot kV_rot dc_rot pm_rot cd_rot ct_rot oc_eight kV_eight dc_eight pm_eight cd_eight ct_eight oc_mix kV_mix dc_mix pm_mix cd_mix ct_mix oc_home kV_home dc_home pm_home cd_home ct_home oc_ord kV_ord dc_ord pm_ord cd_ord ct_ord oc_nxt kV_nxt dc_nxt pm_nxt cd_nxt ct_nxt oc_laid kV_laid dc_laid pm_laid cd_laid ct_laid oc_is kV_is dc_is pm_is cd_is ct_is oc_ref kV_ref dc_ref pm_ref cd_ref ct_ref oc_key kV_key dc_key pm_key cd_key ct_key oc_ans1 kV_ans1 dc_ans1 pm_ans1 cd_ans1 ct_ans1 oc_ans kV_ans dc_ans pm_ans cd_ans ct_ans oc_ti kV_ti dc_ti pm_ti cd_ti ct_ti oc_tinit kV_tinit dc_tinit pm_tinit cd_tinit ct_tinit oc_tmix kV_tmix dc_tmix pm_tmix cd_tmix ct_tmix oc_tput kV_tput dc_tput pm_tput cd_tput ct_tput oc_tget kV_tget dc_tget pm_tget cd_tget ct_tget oc_ttake kV_ttake dc_ttake pm_ttake cd_ttake ct_ttake oc_tplace kV_tplace dc_tplace pm_tplace cd_tplace ct_tplace oc_twalk kV_twalk dc_twalk pm_twalk cd_twalk ct_twalk oc_tmove kV_tmove dc_tmove pm_tmove cd_tmove ct_tmove oc_ri kV_ri dc_ri pm_ri cd_ri ct_ri oc_rmore kV_rmore dc_rmore pm_rmore cd_rmore ct_rmore oc_rnum kV_rnum dc_rnum pm_rnum cd_rnum ct_rnum oc_rrow kV_rrow dc_rrow pm_rrow cd_rrow ct_rrow : Value}
    {t_low t_k1 t_k2 t_k3 t_k4 t_ms t_mb t_c1 t_c2 t_c3 t_c4 t_c5 t_c6 t_c7 t_c8 : Tok}
    (a_CT : PySem.W.nsIn K mainGlobals "Table" = some (some (.ref C_T)))
    (a_CR : PySem.W.nsIn K mainGlobals "Reader" = some (some (.ref C_R)))
    (a_fold : PySem.W.nsIn K mainGlobals "fold" = some (some (.ref f_fold)))
    (l_fold : K.lookup f_fold = some ⟨oc_fold, od_fold, .func (PySem.W.fnOf "fold" "fold" (defArgs sFold) (defBody sFold) (defScope sFold) .none kV_fold dc_fold pm_fold an_fold cd_fold ct_fold), sl_fold⟩)
    (c_fold : PySem.W.codeIn K cd_fold "fold" = true)
    (k_fold : PySem.W.keepIn K (.ref f_fold) = true)
    (a_rot : PySem.W.nsIn K mainGlobals "rotated_left" = some (some (.ref f_rot)))
    (l_rot : K.lookup f_rot = some ⟨oc_rot, od_rot, .func (PySem.W.fnOf "rotated_left" "rotated_left" (defArgs sRot) (defBody sRot) (defScope sRot) .none kV_rot dc_rot pm_rot an_rot cd_rot ct_rot), sl_rot⟩)
    (c_rot : PySem.W.codeIn K cd_rot "rotated_left" = true)
    (k_rot : PySem.W.keepIn K (.ref f_rot) = true)
    (a_eight : PySem.W.nsIn K mainGlobals "eight_bytes" = some (some (.ref f_eight)))
    (l_eight : K.lookup f_eight = some ⟨oc_eight, od_eight, .func (PySem.W.fnOf "eight_bytes" "eight_bytes" (defArgs sEight) (defBody sEight) (defScope sEight) .none kV_eight dc_eight pm_eight an_eight cd_eight ct_eight), sl_eight⟩)
    (c_eight : PySem.W.codeIn K cd_eight "eight_bytes" = true)
    (k_eight : PySem.W.keepIn K (.ref f_eight) = true)
    (a_mix : PySem.W.nsIn K mainGlobals "mix_of" = some (some (.ref f_mix)))
    (l_mix : K.lookup f_mix = some ⟨oc_mix, od_mix, .func (PySem.W.fnOf "mix_of" "mix_of" (defArgs sMix) (defBody sMix) (defScope sMix) .none kV_mix dc_mix pm_mix an_mix cd_mix ct_mix), sl_mix⟩)
    (c_mix : PySem.W.codeIn K cd_mix "mix_of" = true)
    (k_mix : PySem.W.keepIn K (.ref f_mix) = true)
    (a_home : PySem.W.nsIn K mainGlobals "home_of" = some (some (.ref f_home)))
    (l_home : K.lookup f_home = some ⟨oc_home, od_home, .func (PySem.W.fnOf "home_of" "home_of" (defArgs sHome) (defBody sHome) (defScope sHome) .none kV_home dc_home pm_home an_home cd_home ct_home), sl_home⟩)
    (c_home : PySem.W.codeIn K cd_home "home_of" = true)
    (k_home : PySem.W.keepIn K (.ref f_home) = true)
    (a_ord : PySem.W.nsIn K mainGlobals "in_laying_order" = some (some (.ref f_ord)))
    (l_ord : K.lookup f_ord = some ⟨oc_ord, od_ord, .func (PySem.W.fnOf "in_laying_order" "in_laying_order" (defArgs sOrder) (defBody sOrder) (defScope sOrder) .none kV_ord dc_ord pm_ord an_ord cd_ord ct_ord), sl_ord⟩)
    (c_ord : PySem.W.codeIn K cd_ord "in_laying_order" = true)
    (k_ord : PySem.W.keepIn K (.ref f_ord) = true)
    (a_nxt : PySem.W.nsIn K mainGlobals "next_free" = some (some (.ref f_nxt)))
    (l_nxt : K.lookup f_nxt = some ⟨oc_nxt, od_nxt, .func (PySem.W.fnOf "next_free" "next_free" (defArgs sNext) (defBody sNext) (defScope sNext) .none kV_nxt dc_nxt pm_nxt an_nxt cd_nxt ct_nxt), sl_nxt⟩)
    (c_nxt : PySem.W.codeIn K cd_nxt "next_free" = true)
    (k_nxt : PySem.W.keepIn K (.ref f_nxt) = true)
    (a_laid : PySem.W.nsIn K mainGlobals "laid" = some (some (.ref f_laid)))
    (l_laid : K.lookup f_laid = some ⟨oc_laid, od_laid, .func (PySem.W.fnOf "laid" "laid" (defArgs sLaid) (defBody sLaid) (defScope sLaid) .none kV_laid dc_laid pm_laid an_laid cd_laid ct_laid), sl_laid⟩)
    (c_laid : PySem.W.codeIn K cd_laid "laid" = true)
    (k_laid : PySem.W.keepIn K (.ref f_laid) = true)
    (a_is : PySem.W.nsIn K mainGlobals "is_number_of_places" = some (some (.ref f_is)))
    (l_is : K.lookup f_is = some ⟨oc_is, od_is, .func (PySem.W.fnOf "is_number_of_places" "is_number_of_places" (defArgs sIs) (defBody sIs) (defScope sIs) .none kV_is dc_is pm_is an_is cd_is ct_is), sl_is⟩)
    (c_is : PySem.W.codeIn K cd_is "is_number_of_places" = true)
    (k_is : PySem.W.keepIn K (.ref f_is) = true)
    (a_ref : PySem.W.nsIn K mainGlobals "refusal" = some (some (.ref f_ref)))
    (l_ref : K.lookup f_ref = some ⟨oc_ref, od_ref, .func (PySem.W.fnOf "refusal" "refusal" (defArgs sRef) (defBody sRef) (defScope sRef) .none kV_ref dc_ref pm_ref an_ref cd_ref ct_ref), sl_ref⟩)
    (c_ref : PySem.W.codeIn K cd_ref "refusal" = true)
    (k_ref : PySem.W.keepIn K (.ref f_ref) = true)
    (a_key : PySem.W.nsIn K mainGlobals "answer_about_key" = some (some (.ref f_key)))
    (l_key : K.lookup f_key = some ⟨oc_key, od_key, .func (PySem.W.fnOf "answer_about_key" "answer_about_key" (defArgs sKey) (defBody sKey) (defScope sKey) .none kV_key dc_key pm_key an_key cd_key ct_key), sl_key⟩)
    (c_key : PySem.W.codeIn K cd_key "answer_about_key" = true)
    (k_key : PySem.W.keepIn K (.ref f_key) = true)
    (a_ans1 : PySem.W.nsIn K mainGlobals "answer" = some (some (.ref f_ans1)))
    (l_ans1 : K.lookup f_ans1 = some ⟨oc_ans1, od_ans1, .func (PySem.W.fnOf "answer" "answer" (defArgs sAnswer) (defBody sAnswer) (defScope sAnswer) .none kV_ans1 dc_ans1 pm_ans1 an_ans1 cd_ans1 ct_ans1), sl_ans1⟩)
    (c_ans1 : PySem.W.codeIn K cd_ans1 "answer" = true)
    (k_ans1 : PySem.W.keepIn K (.ref f_ans1) = true)
    (a_ans : PySem.W.nsIn K mainGlobals "answers" = some (some (.ref f_ans)))
    (l_ans : K.lookup f_ans = some ⟨oc_ans, od_ans, .func (PySem.W.fnOf "answers" "answers" (defArgs sAnswers) (defBody sAnswers) (defScope sAnswers) .none kV_ans dc_ans pm_ans an_ans cd_ans ct_ans), sl_ans⟩)
    (c_ans : PySem.W.codeIn K cd_ans "answers" = true)
    (k_ans : PySem.W.keepIn K (.ref f_ans) = true)
    (a_ti : PySem.W.findIn K (.ref C_T) "__init__" = some (some (.ref f_ti)))
    (i_ti : PySem.W.isFn K (.ref f_ti) = true)
    (l_ti : K.lookup f_ti = some ⟨oc_ti, od_ti, .func (PySem.W.fnOf "__init__" "Table.__init__" (defArgs sTI) (defBody sTI) (defScope sTI) .none kV_ti dc_ti pm_ti an_ti cd_ti ct_ti), sl_ti⟩)
    (c_ti : PySem.W.codeIn K cd_ti "Table.__init__" = true)
    (k_ti : PySem.W.keepIn K (.ref f_ti) = true)
    (a_tinit : PySem.W.findIn K (.ref C_T) "init" = some (some (.ref f_tinit)))
    (i_tinit : PySem.W.isFn K (.ref f_tinit) = true)
    (l_tinit : K.lookup f_tinit = some ⟨oc_tinit, od_tinit, .func (PySem.W.fnOf "init" "Table.init" (defArgs sTInit) (defBody sTInit) (defScope sTInit) .none kV_tinit dc_tinit pm_tinit an_tinit cd_tinit ct_tinit), sl_tinit⟩)
    (c_tinit : PySem.W.codeIn K cd_tinit "Table.init" = true)
    (k_tinit : PySem.W.keepIn K (.ref f_tinit) = true)
    (a_tmix : PySem.W.findIn K (.ref C_T) "mix" = some (some (.ref f_tmix)))
    (i_tmix : PySem.W.isFn K (.ref f_tmix) = true)
    (l_tmix : K.lookup f_tmix = some ⟨oc_tmix, od_tmix, .func (PySem.W.fnOf "mix" "Table.mix" (defArgs sTMix) (defBody sTMix) (defScope sTMix) .none kV_tmix dc_tmix pm_tmix an_tmix cd_tmix ct_tmix), sl_tmix⟩)
    (c_tmix : PySem.W.codeIn K cd_tmix "Table.mix" = true)
    (k_tmix : PySem.W.keepIn K (.ref f_tmix) = true)
    (a_tput : PySem.W.findIn K (.ref C_T) "put" = some (some (.ref f_tput)))
    (i_tput : PySem.W.isFn K (.ref f_tput) = true)
    (l_tput : K.lookup f_tput = some ⟨oc_tput, od_tput, .func (PySem.W.fnOf "put" "Table.put" (defArgs sTPut) (defBody sTPut) (defScope sTPut) .none kV_tput dc_tput pm_tput an_tput cd_tput ct_tput), sl_tput⟩)
    (c_tput : PySem.W.codeIn K cd_tput "Table.put" = true)
    (k_tput : PySem.W.keepIn K (.ref f_tput) = true)
    (a_tget : PySem.W.findIn K (.ref C_T) "get" = some (some (.ref f_tget)))
    (i_tget : PySem.W.isFn K (.ref f_tget) = true)
    (l_tget : K.lookup f_tget = some ⟨oc_tget, od_tget, .func (PySem.W.fnOf "get" "Table.get" (defArgs sTGet) (defBody sTGet) (defScope sTGet) .none kV_tget dc_tget pm_tget an_tget cd_tget ct_tget), sl_tget⟩)
    (c_tget : PySem.W.codeIn K cd_tget "Table.get" = true)
    (k_tget : PySem.W.keepIn K (.ref f_tget) = true)
    (a_ttake : PySem.W.findIn K (.ref C_T) "take" = some (some (.ref f_ttake)))
    (i_ttake : PySem.W.isFn K (.ref f_ttake) = true)
    (l_ttake : K.lookup f_ttake = some ⟨oc_ttake, od_ttake, .func (PySem.W.fnOf "take" "Table.take" (defArgs sTTake) (defBody sTTake) (defScope sTTake) .none kV_ttake dc_ttake pm_ttake an_ttake cd_ttake ct_ttake), sl_ttake⟩)
    (c_ttake : PySem.W.codeIn K cd_ttake "Table.take" = true)
    (k_ttake : PySem.W.keepIn K (.ref f_ttake) = true)
    (a_tplace : PySem.W.findIn K (.ref C_T) "place" = some (some (.ref f_tplace)))
    (i_tplace : PySem.W.isFn K (.ref f_tplace) = true)
    (l_tplace : K.lookup f_tplace = some ⟨oc_tplace, od_tplace, .func (PySem.W.fnOf "place" "Table.place" (defArgs sTPlace) (defBody sTPlace) (defScope sTPlace) .none kV_tplace dc_tplace pm_tplace an_tplace cd_tplace ct_tplace), sl_tplace⟩)
    (c_tplace : PySem.W.codeIn K cd_tplace "Table.place" = true)
    (k_tplace : PySem.W.keepIn K (.ref f_tplace) = true)
    (a_twalk : PySem.W.findIn K (.ref C_T) "walk" = some (some (.ref f_twalk)))
    (i_twalk : PySem.W.isFn K (.ref f_twalk) = true)
    (l_twalk : K.lookup f_twalk = some ⟨oc_twalk, od_twalk, .func (PySem.W.fnOf "walk" "Table.walk" (defArgs sTWalk) (defBody sTWalk) (defScope sTWalk) .none kV_twalk dc_twalk pm_twalk an_twalk cd_twalk ct_twalk), sl_twalk⟩)
    (c_twalk : PySem.W.codeIn K cd_twalk "Table.walk" = true)
    (k_twalk : PySem.W.keepIn K (.ref f_twalk) = true)
    (a_tmove : PySem.W.findIn K (.ref C_T) "move" = some (some (.ref f_tmove)))
    (i_tmove : PySem.W.isFn K (.ref f_tmove) = true)
    (l_tmove : K.lookup f_tmove = some ⟨oc_tmove, od_tmove, .func (PySem.W.fnOf "move" "Table.move" (defArgs sTMove) (defBody sTMove) (defScope sTMove) .none kV_tmove dc_tmove pm_tmove an_tmove cd_tmove ct_tmove), sl_tmove⟩)
    (c_tmove : PySem.W.codeIn K cd_tmove "Table.move" = true)
    (k_tmove : PySem.W.keepIn K (.ref f_tmove) = true)
    (a_ri : PySem.W.findIn K (.ref C_R) "__init__" = some (some (.ref f_ri)))
    (i_ri : PySem.W.isFn K (.ref f_ri) = true)
    (l_ri : K.lookup f_ri = some ⟨oc_ri, od_ri, .func (PySem.W.fnOf "__init__" "Reader.__init__" (defArgs sRI) (defBody sRI) (defScope sRI) .none kV_ri dc_ri pm_ri an_ri cd_ri ct_ri), sl_ri⟩)
    (c_ri : PySem.W.codeIn K cd_ri "Reader.__init__" = true)
    (k_ri : PySem.W.keepIn K (.ref f_ri) = true)
    (a_rmore : PySem.W.findIn K (.ref C_R) "more" = some (some (.ref f_rmore)))
    (i_rmore : PySem.W.isFn K (.ref f_rmore) = true)
    (l_rmore : K.lookup f_rmore = some ⟨oc_rmore, od_rmore, .func (PySem.W.fnOf "more" "Reader.more" (defArgs sRMore) (defBody sRMore) (defScope sRMore) .none kV_rmore dc_rmore pm_rmore an_rmore cd_rmore ct_rmore), sl_rmore⟩)
    (c_rmore : PySem.W.codeIn K cd_rmore "Reader.more" = true)
    (k_rmore : PySem.W.keepIn K (.ref f_rmore) = true)
    (a_rnum : PySem.W.findIn K (.ref C_R) "number" = some (some (.ref f_rnum)))
    (i_rnum : PySem.W.isFn K (.ref f_rnum) = true)
    (l_rnum : K.lookup f_rnum = some ⟨oc_rnum, od_rnum, .func (PySem.W.fnOf "number" "Reader.number" (defArgs sRNum) (defBody sRNum) (defScope sRNum) .none kV_rnum dc_rnum pm_rnum an_rnum cd_rnum ct_rnum), sl_rnum⟩)
    (c_rnum : PySem.W.codeIn K cd_rnum "Reader.number" = true)
    (k_rnum : PySem.W.keepIn K (.ref f_rnum) = true)
    (a_rrow : PySem.W.findIn K (.ref C_R) "row" = some (some (.ref f_rrow)))
    (i_rrow : PySem.W.isFn K (.ref f_rrow) = true)
    (l_rrow : K.lookup f_rrow = some ⟨oc_rrow, od_rrow, .func (PySem.W.fnOf "row" "Reader.row" (defArgs sRRow) (defBody sRRow) (defScope sRRow) .none kV_rrow dc_rrow pm_rrow an_rrow cd_rrow ct_rrow), sl_rrow⟩)
    (c_rrow : PySem.W.codeIn K cd_rrow "Reader.row" = true)
    (k_rrow : PySem.W.keepIn K (.ref f_rrow) = true)
    (pg_T : PySem.W.plainGet K C_T Str.empty = true)
    (hd_T : PySem.W.hasDictIn K C_T = true)
    (po_T : PySem.W.plainOver K C_T = true)
    (sa_T : PySem.W.findIn K (.ref C_T) "__setattr__" = some (some (.builtin "object.__setattr__")))
    (mk_T : PySem.W.makesIn K C_T = true)
    (kc_T : PySem.W.keepIn K (.ref C_T) = true)
    (n_T_seed : PySem.W.findIn K (.ref C_T) "seed" = some none)
    (n_T_slots : PySem.W.findIn K (.ref C_T) "slots" = some none)
    (n_T_kept : PySem.W.findIn K (.ref C_T) "kept" = some none)
    (pg_R : PySem.W.plainGet K C_R Str.empty = true)
    (hd_R : PySem.W.hasDictIn K C_R = true)
    (po_R : PySem.W.plainOver K C_R = true)
    (sa_R : PySem.W.findIn K (.ref C_R) "__setattr__" = some (some (.builtin "object.__setattr__")))
    (mk_R : PySem.W.makesIn K C_R = true)
    (kc_R : PySem.W.keepIn K (.ref C_R) = true)
    (n_R_numbers : PySem.W.findIn K (.ref C_R) "numbers" = some none)
    (n_R_at : PySem.W.findIn K (.ref C_R) "at" = some none)
    (g_low : PySem.W.nsIn K mainGlobals "LOW_64_BITS" = some (some (.int 18446744073709551615 t_low)))
    (g_k1 : PySem.W.nsIn K mainGlobals "K1" = some (some (.int 11400714819323198485 t_k1)))
    (g_k2 : PySem.W.nsIn K mainGlobals "K2" = some (some (.int 15485907386658061715 t_k2)))
    (g_k3 : PySem.W.nsIn K mainGlobals "K3" = some (some (.int 11562461410679940143 t_k3)))
    (g_k4 : PySem.W.nsIn K mainGlobals "K4" = some (some (.int 16646288086500911323 t_k4)))
    (g_ms : PySem.W.nsIn K mainGlobals "MOST_SLOTS" = some (some (.int 128 t_ms)))
    (g_mb : PySem.W.nsIn K mainGlobals "MOST_BYTES" = some (some (.int 255 t_mb)))
    (g_c1 : PySem.W.nsIn K mainGlobals "INIT" = some (some (.int 1 t_c1)))
    (g_c2 : PySem.W.nsIn K mainGlobals "MIX" = some (some (.int 2 t_c2)))
    (g_c3 : PySem.W.nsIn K mainGlobals "PUT" = some (some (.int 3 t_c3)))
    (g_c4 : PySem.W.nsIn K mainGlobals "GET" = some (some (.int 4 t_c4)))
    (g_c5 : PySem.W.nsIn K mainGlobals "TAKE" = some (some (.int 5 t_c5)))
    (g_c6 : PySem.W.nsIn K mainGlobals "PLACE" = some (some (.int 6 t_c6)))
    (g_c7 : PySem.W.nsIn K mainGlobals "WALK" = some (some (.int 7 t_c7)))
    (g_c8 : PySem.W.nsIn K mainGlobals "MOVE" = some (some (.int 8 t_c8)))
    (b_len : PySem.W.nsIn K mainGlobals "len" = some none)
    (b_reversed : PySem.W.nsIn K mainGlobals "reversed" = some none)
    (b_tuple : PySem.W.nsIn K mainGlobals "tuple" = some none)
    (b_sorted : PySem.W.nsIn K mainGlobals "sorted" = some none)
    (b_list : PySem.W.nsIn K mainGlobals "list" = some none) :
    ∃ fd : FuncData, (∀ (s : Shared) (us : List Value), us.length = (["calls"] : List Str).length → BindsTo s fd ⟨us, []⟩ ((["calls"] : List Str).zip us)) ∧ ∀ base : Heap, K.In base → base.Ns mainGlobals mg → FnOk P w K mg base CX0 8 fa fd ["calls"] (spAnswers K) := by
  have e := hfa.symm.trans (PySem.W.mg_of X G a_ans)
  cases e
  have F_fold := fun_mk (st := sFold) l_fold c_fold k_fold
  have F_rot := fun_mk (st := sRot) l_rot c_rot k_rot
  have F_eight := fun_mk (st := sEight) l_eight c_eight k_eight
  have F_mix := fun_mk (st := sMix) l_mix c_mix k_mix
  have F_home := fun_mk (st := sHome) l_home c_home k_home
  have F_ord := fun_mk (st := sOrder) l_ord c_ord k_ord
  have F_nxt := fun_mk (st := sNext) l_nxt c_nxt k_nxt
  have F_laid := fun_mk (st := sLaid) l_laid c_laid k_laid
  have F_is := fun_mk (st := sIs) l_is c_is k_is
  have F_ref := fun_mk (st := sRef) l_ref c_ref k_ref
  have F_key := fun_mk (st := sKey) l_key c_key k_key
  have F_ans1 := fun_mk (st := sAnswer) l_ans1 c_ans1 k_ans1
  have F_ans := fun_mk (st := sAnswers) l_ans c_ans k_ans
  have F_ti := fun_mk (st := sTI) l_ti c_ti k_ti
  have F_tinit := fun_mk (st := sTInit) l_tinit c_tinit k_tinit
  have F_tmix := fun_mk (st := sTMix) l_tmix c_tmix k_tmix
  have F_tput := fun_mk (st := sTPut) l_tput c_tput k_tput
  have F_tget := fun_mk (st := sTGet) l_tget c_tget k_tget
  have F_ttake := fun_mk (st := sTTake) l_ttake c_ttake k_ttake
  have F_tplace := fun_mk (st := sTPlace) l_tplace c_tplace k_tplace
  have F_twalk := fun_mk (st := sTWalk) l_twalk c_twalk k_twalk
  have F_tmove := fun_mk (st := sTMove) l_tmove c_tmove k_tmove
  have F_ri := fun_mk (st := sRI) l_ri c_ri k_ri
  have F_rmore := fun_mk (st := sRMore) l_rmore c_rmore k_rmore
  have F_rnum := fun_mk (st := sRNum) l_rnum c_rnum k_rnum
  have F_rrow := fun_mk (st := sRRow) l_rrow c_rrow k_rrow
  have b_fold := F_fold.binds (ps := ["a", "b"]) fun _ _ _ _ _ _ us hl => match us, hl with | [_, _], _ => rfl
  have b_rot := F_rot.binds (ps := ["word", "bits"]) fun _ _ _ _ _ _ us hl => match us, hl with | [_, _], _ => rfl
  have b_eight := F_eight.binds (ps := ["key", "start"]) fun _ _ _ _ _ _ us hl => match us, hl with | [_, _], _ => rfl
  have b_mix := F_mix.binds (ps := ["seed", "key"]) fun _ _ _ _ _ _ us hl => match us, hl with | [_, _], _ => rfl
  have b_home := F_home.binds (ps := ["mix", "slots"]) fun _ _ _ _ _ _ us hl => match us, hl with | [_, _], _ => rfl
  have b_ord := F_ord.binds (ps := ["keys", "seed", "slots"]) fun _ _ _ _ _ _ us hl => match us, hl with | [_, _, _], _ => rfl
  have b_nxt := F_nxt.binds (ps := ["places", "home"]) fun _ _ _ _ _ _ us hl => match us, hl with | [_, _], _ => rfl
  have b_laid := F_laid.binds (ps := ["keys", "seed", "slots"]) fun _ _ _ _ _ _ us hl => match us, hl with | [_, _, _], _ => rfl
  have b_is := F_is.binds (ps := ["slots"]) fun _ _ _ _ _ _ us hl => match us, hl with | [_], _ => rfl
  have b_ref := F_ref.binds (ps := []) fun _ _ _ _ _ _ us hl => match us, hl with | [], _ => rfl
  have b_key := F_key.binds (ps := ["table", "call", "reader"]) fun _ _ _ _ _ _ us hl => match us, hl with | [_, _, _], _ => rfl
  have b_ans1 := F_ans1.binds (ps := ["table", "reader"]) fun _ _ _ _ _ _ us hl => match us, hl with | [_, _], _ => rfl
  have b_ans := F_ans.binds (ps := ["calls"]) fun _ _ _ _ _ _ us hl => match us, hl with | [_], _ => rfl
  have b_ti := F_ti.binds (ps := ["self"]) fun _ _ _ _ _ _ us hl => match us, hl with | [_], _ => rfl
  have b_tinit := F_tinit.binds (ps := ["self", "seed", "slots"]) fun _ _ _ _ _ _ us hl => match us, hl with | [_, _, _], _ => rfl
  have b_tmix := F_tmix.binds (ps := ["self", "key"]) fun _ _ _ _ _ _ us hl => match us, hl with | [_, _], _ => rfl
  have b_tput := F_tput.binds (ps := ["self", "key", "value"]) fun _ _ _ _ _ _ us hl => match us, hl with | [_, _, _], _ => rfl
  have b_tget := F_tget.binds (ps := ["self", "key"]) fun _ _ _ _ _ _ us hl => match us, hl with | [_, _], _ => rfl
  have b_ttake := F_ttake.binds (ps := ["self", "key"]) fun _ _ _ _ _ _ us hl => match us, hl with | [_, _], _ => rfl
  have b_tplace := F_tplace.binds (ps := ["self", "key"]) fun _ _ _ _ _ _ us hl => match us, hl with | [_, _], _ => rfl
  have b_twalk := F_twalk.binds (ps := ["self", "place"]) fun _ _ _ _ _ _ us hl => match us, hl with | [_, _], _ => rfl
  have b_tmove := F_tmove.binds (ps := ["self", "slots"]) fun _ _ _ _ _ _ us hl => match us, hl with | [_, _], _ => rfl
  have b_ri := F_ri.binds (ps := ["self", "numbers"]) fun _ _ _ _ _ _ us hl => match us, hl with | [_, _], _ => rfl
  have b_rmore := F_rmore.binds (ps := ["self"]) fun _ _ _ _ _ _ us hl => match us, hl with | [_], _ => rfl
  have b_rnum := F_rnum.binds (ps := ["self"]) fun _ _ _ _ _ _ us hl => match us, hl with | [_], _ => rfl
  have b_rrow := F_rrow.binds (ps := ["self"]) fun _ _ _ _ _ _ us hl => match us, hl with | [_], _ => rfl
  have N_fold : Fn K mg "fold" f_fold _ ["a", "b"] := ⟨PySem.W.mg_of X G a_fold, k_fold, b_fold⟩
  have N_rot : Fn K mg "rotated_left" f_rot _ ["word", "bits"] := ⟨PySem.W.mg_of X G a_rot, k_rot, b_rot⟩
  have N_eight : Fn K mg "eight_bytes" f_eight _ ["key", "start"] := ⟨PySem.W.mg_of X G a_eight, k_eight, b_eight⟩
  have N_mix : Fn K mg "mix_of" f_mix _ ["seed", "key"] := ⟨PySem.W.mg_of X G a_mix, k_mix, b_mix⟩
  have N_home : Fn K mg "home_of" f_home _ ["mix", "slots"] := ⟨PySem.W.mg_of X G a_home, k_home, b_home⟩
  have N_ord : Fn K mg "in_laying_order" f_ord _ ["keys", "seed", "slots"] := ⟨PySem.W.mg_of X G a_ord, k_ord, b_ord⟩
  have N_nxt : Fn K mg "next_free" f_nxt _ ["places", "home"] := ⟨PySem.W.mg_of X G a_nxt, k_nxt, b_nxt⟩
  have N_laid : Fn K mg "laid" f_laid _ ["keys", "seed", "slots"] := ⟨PySem.W.mg_of X G a_laid, k_laid, b_laid⟩
  have N_is : Fn K mg "is_number_of_places" f_is _ ["slots"] := ⟨PySem.W.mg_of X G a_is, k_is, b_is⟩
  have N_ref : Fn K mg "refusal" f_ref _ [] := ⟨PySem.W.mg_of X G a_ref, k_ref, b_ref⟩
  have N_key : Fn K mg "answer_about_key" f_key _ ["table", "call", "reader"] := ⟨PySem.W.mg_of X G a_key, k_key, b_key⟩
  have N_ans1 : Fn K mg "answer" f_ans1 _ ["table", "reader"] := ⟨PySem.W.mg_of X G a_ans1, k_ans1, b_ans1⟩
  have M_ti : Md K C_T "__init__" f_ti _ ["self"] := ⟨⟨a_ti, i_ti, k_ti⟩, b_ti⟩
  have M_tinit : Md K C_T "init" f_tinit _ ["self", "seed", "slots"] := ⟨⟨a_tinit, i_tinit, k_tinit⟩, b_tinit⟩
  have M_tmix : Md K C_T "mix" f_tmix _ ["self", "key"] := ⟨⟨a_tmix, i_tmix, k_tmix⟩, b_tmix⟩
  have M_tput : Md K C_T "put" f_tput _ ["self", "key", "value"] := ⟨⟨a_tput, i_tput, k_tput⟩, b_tput⟩
  have M_tget : Md K C_T "get" f_tget _ ["self", "key"] := ⟨⟨a_tget, i_tget, k_tget⟩, b_tget⟩
  have M_ttake : Md K C_T "take" f_ttake _ ["self", "key"] := ⟨⟨a_ttake, i_ttake, k_ttake⟩, b_ttake⟩
  have M_tplace : Md K C_T "place" f_tplace _ ["self", "key"] := ⟨⟨a_tplace, i_tplace, k_tplace⟩, b_tplace⟩
  have M_twalk : Md K C_T "walk" f_twalk _ ["self", "place"] := ⟨⟨a_twalk, i_twalk, k_twalk⟩, b_twalk⟩
  have M_tmove : Md K C_T "move" f_tmove _ ["self", "slots"] := ⟨⟨a_tmove, i_tmove, k_tmove⟩, b_tmove⟩
  have M_ri : Md K C_R "__init__" f_ri _ ["self", "numbers"] := ⟨⟨a_ri, i_ri, k_ri⟩, b_ri⟩
  have M_rmore : Md K C_R "more" f_rmore _ ["self"] := ⟨⟨a_rmore, i_rmore, k_rmore⟩, b_rmore⟩
  have M_rnum : Md K C_R "number" f_rnum _ ["self"] := ⟨⟨a_rnum, i_rnum, k_rnum⟩, b_rnum⟩
  have M_rrow : Md K C_R "row" f_rrow _ ["self"] := ⟨⟨a_rrow, i_rrow, k_rrow⟩, b_rrow⟩
  have T : Txt mg := ⟨⟨_, PySem.W.mg_of X G g_low⟩, ⟨_, PySem.W.mg_of X G g_k1⟩, ⟨_, PySem.W.mg_of X G g_k2⟩, ⟨_, PySem.W.mg_of X G g_k3⟩, ⟨_, PySem.W.mg_of X G g_k4⟩, PySem.W.mg_none_of X G b_len, PySem.W.mg_none_of X G b_reversed, PySem.W.mg_none_of X G b_tuple⟩
  have RT : RTxt K C_R := ⟨⟨pg_R, hd_R, po_R, sa_R⟩, n_R_numbers, n_R_at⟩
  have TT : TTxt K C_T := ⟨⟨pg_T, hd_T, po_T, sa_T⟩, n_T_seed, n_T_slots, n_T_kept⟩
  refine ⟨PySem.W.fnOf "answers" "answers" (defArgs sAnswers) (defBody sAnswers) (defScope sAnswers) .none kV_ans dc_ans pm_ans an_ans cd_ans ct_ans, fun s us hu => match us, hu with | [_], _ => .of_eq rfl, fun base _ _ => ?_⟩
  have G_ti := ok_ti (P := P) (w := w) (mg := mg) (base := base) F_ti TT
  have G_ri := ok_ri (P := P) (w := w) (mg := mg) (base := base) F_ri RT
  have G_more := ok_rmore (P := P) (w := w) (mg := mg) (base := base) F_rmore RT T.len
  have G_fold := ok_fold (P := P) (w := w) (mg := mg) (base := base) F_fold T
  have G_rot := ok_rot (P := P) (w := w) (mg := mg) (base := base) F_rot T
  have G_eight := ok_eight (P := P) (w := w) (mg := mg) (base := base) F_eight T
  have G_mix := ok_mix (P := P) (w := w) (mg := mg) (base := base) F_mix T N_fold N_rot N_eight G_fold G_rot G_eight
  have G_home := ok_home (P := P) (w := w) (mg := mg) (base := base) F_home
  have G_ord := ok_order (P := P) (w := w) (mg := mg) (base := base) F_ord (PySem.W.mg_none_of X G b_sorted) N_mix G_mix N_home G_home
  have G_nxt := ok_next (P := P) (w := w) (mg := mg) (base := base) F_nxt T
  have G_laid := ok_laid (P := P) (w := w) (mg := mg) (base := base) F_laid N_ord G_ord N_nxt G_nxt
  have G_is := ok_is (P := P) (w := w) (mg := mg) (base := base) F_is ⟨_, PySem.W.mg_of X G g_ms⟩
  have G_ref := ok_ref (P := P) (w := w) (mg := mg) (base := base) F_ref
  have G_num := ok_rnum (P := P) (w := w) (mg := mg) (base := base) F_rnum RT
  have G_row := ok_rrow (P := P) (w := w) (mg := mg) (base := base) F_rrow RT T.tup M_rnum G_num
  have G_init := ok_tinit (P := P) (w := w) (mg := mg) (base := base) F_tinit TT N_is G_is N_ref G_ref
  have G_tmix := ok_tmix (P := P) (w := w) (mg := mg) (base := base) F_tmix TT N_mix G_mix
  have G_put := ok_tput (P := P) (w := w) (mg := mg) (base := base) F_tput TT T.len N_ref G_ref
  have G_get := ok_tget (P := P) (w := w) (mg := mg) (base := base) F_tget TT
  have G_take := ok_ttake (P := P) (w := w) (mg := mg) (base := base) F_ttake TT
  have G_place := ok_tplace (P := P) (w := w) (mg := mg) (base := base) F_tplace TT N_laid G_laid N_ref G_ref
  have G_walk := ok_twalk (P := P) (w := w) (mg := mg) (base := base) F_twalk TT T (PySem.W.mg_none_of X G b_list) N_laid G_laid N_ref G_ref
  have G_move := ok_tmove (P := P) (w := w) (mg := mg) (base := base) F_tmove TT T N_is G_is N_ref G_ref
  have NN : Nums mg := ⟨⟨_, PySem.W.mg_of X G g_c1⟩, ⟨_, PySem.W.mg_of X G g_c2⟩, ⟨_, PySem.W.mg_of X G g_c3⟩, ⟨_, PySem.W.mg_of X G g_c4⟩, ⟨_, PySem.W.mg_of X G g_c5⟩, ⟨_, PySem.W.mg_of X G g_c6⟩, ⟨_, PySem.W.mg_of X G g_c7⟩, ⟨_, PySem.W.mg_of X G g_c8⟩, ⟨_, PySem.W.mg_of X G g_mb⟩⟩
  have MM : Meths P w K mg base C_T C_R f_rnum f_rrow f_tinit f_tmix f_tput f_tget f_ttake f_tplace f_twalk f_tmove f_ref _ _ _ _ _ _ _ _ _ _ _ :=
    ⟨M_rnum, G_num, M_rrow, G_row, M_tinit, G_init, M_tmix, G_tmix, M_tput, G_put, M_tget, G_get, M_ttake, G_take, M_tplace, G_place, M_twalk, G_walk, M_tmove, G_move, N_ref, G_ref⟩
  have G_key := ok_key (P := P) (w := w) (mg := mg) (base := base) F_key TT RT NN MM
  have G_a := ok_answer (P := P) (w := w) (mg := mg) (base := base) F_ans1 TT RT NN MM N_key G_key
  exact ok_answers F_ans T RT (PySem.W.mg_of X G a_CT) (PySem.W.mg_of X G a_CR) ⟨mk_T, a_ti, i_ti, kc_T⟩ b_ti G_ti ⟨mk_R, a_ri, i_ri, kc_R⟩ b_ri G_ri M_rmore G_more N_ans1 G_a
end Hp
end
open PySem PySem.W PyProof.Rows
set_option maxRecDepth 100000 in
set_option maxHeartbeats 0 in
theorem PySem.Challenge.cw_homeplaces_s01_answers_holds : PySem.Challenge.rw_homeplaces_s01_answers.Holds := by
  w_on; k_headS; (case hw => exact ⟨[.list [.int 1, .int 0, .int 1]], by decide +kernel, by decide +kernel⟩)
  k_fillS
  refine L2.walk_specK (r := PySem.Challenge.rw_homeplaces_s01_answers) (k := 8) (CX := L2.CX0) (ps := ["calls"]) (sp := Hp.spAnswers) (by decide +kernel) rfl rfl ⟨rfl, by decide, by decide⟩ (fun w h Y => PySem.W.kIn_of Y) ?F ?S (fun _ _ _ _ z => z)
  case F =>
    intro w mg fa h Y KX G hmg
    refine' Hp.all_mk KX G hmg ?a_CT ?a_CR ?a_fold ?l_fold ?c_fold ?k_fold ?a_rot ?l_rot ?c_rot ?k_rot ?a_eight ?l_eight ?c_eight ?k_eight ?a_mix ?l_mix ?c_mix ?k_mix ?a_home ?l_home ?c_home ?k_home ?a_ord ?l_ord ?c_ord ?k_ord ?a_nxt ?l_nxt ?c_nxt ?k_nxt ?a_laid ?l_laid ?c_laid ?k_laid ?a_is ?l_is ?c_is ?k_is ?a_ref ?l_ref ?c_ref ?k_ref ?a_key ?l_key ?c_key ?k_key ?a_ans1 ?l_ans1 ?c_ans1 ?k_ans1 ?a_ans ?l_ans ?c_ans ?k_ans ?a_ti ?i_ti ?l_ti ?c_ti ?k_ti ?a_tinit ?i_tinit ?l_tinit ?c_tinit ?k_tinit ?a_tmix ?i_tmix ?l_tmix ?c_tmix ?k_tmix ?a_tput ?i_tput ?l_tput ?c_tput ?k_tput ?a_tget ?i_tget ?l_tget ?c_tget ?k_tget ?a_ttake ?i_ttake ?l_ttake ?c_ttake ?k_ttake ?a_tplace ?i_tplace ?l_tplace ?c_tplace ?k_tplace ?a_twalk ?i_twalk ?l_twalk ?c_twalk ?k_twalk ?a_tmove ?i_tmove ?l_tmove ?c_tmove ?k_tmove ?a_ri ?i_ri ?l_ri ?c_ri ?k_ri ?a_rmore ?i_rmore ?l_rmore ?c_rmore ?k_rmore ?a_rnum ?i_rnum ?l_rnum ?c_rnum ?k_rnum ?a_rrow ?i_rrow ?l_rrow ?c_rrow ?k_rrow ?pg_T ?hd_T ?po_T ?sa_T ?mk_T ?kc_T ?n_T_seed ?n_T_slots ?n_T_kept ?pg_R ?hd_R ?po_R ?sa_R ?mk_R ?kc_R ?n_R_numbers ?n_R_at ?g_low ?g_k1 ?g_k2 ?g_k3 ?g_k4 ?g_ms ?g_mb ?g_c1 ?g_c2 ?g_c3 ?g_c4 ?g_c5 ?g_c6 ?g_c7 ?g_c8 ?b_len ?b_reversed ?b_tuple ?b_sorted ?b_list
    (case a_CT => k_is)
    (case a_CR => k_is)
    (case a_fold => k_is)
    (case l_fold => k_is)
    (case c_fold => k_is)
    (case k_fold => k_is)
    (case a_rot => k_is)
    (case l_rot => k_is)
    (case c_rot => k_is)
    (case k_rot => k_is)
    (case a_eight => k_is)
    (case l_eight => k_is)
    (case c_eight => k_is)
    (case k_eight => k_is)
    (case a_mix => k_is)
    (case l_mix => k_is)
    (case c_mix => k_is)
    (case k_mix => k_is)
    (case a_home => k_is)
    (case l_home => k_is)
    (case c_home => k_is)
    (case k_home => k_is)
    (case a_ord => k_is)
    (case l_ord => k_is)
    (case c_ord => k_is)
    (case k_ord => k_is)
    (case a_nxt => k_is)
    (case l_nxt => k_is)
    (case c_nxt => k_is)
    (case k_nxt => k_is)
    (case a_laid => k_is)
    (case l_laid => k_is)
    (case c_laid => k_is)
    (case k_laid => k_is)
    (case a_is => k_is)
    (case l_is => k_is)
    (case c_is => k_is)
    (case k_is => k_is)
    (case a_ref => k_is)
    (case l_ref => k_is)
    (case c_ref => k_is)
    (case k_ref => k_is)
    (case a_key => k_is)
    (case l_key => k_is)
    (case c_key => k_is)
    (case k_key => k_is)
    (case a_ans1 => k_is)
    (case l_ans1 => k_is)
    (case c_ans1 => k_is)
    (case k_ans1 => k_is)
    (case a_ans => k_is)
    (case l_ans => k_is)
    (case c_ans => k_is)
    (case k_ans => k_is)
    (case a_ti => k_is)
    (case i_ti => k_is)
    (case l_ti => k_is)
    (case c_ti => k_is)
    (case k_ti => k_is)
    (case a_tinit => k_is)
    (case i_tinit => k_is)
    (case l_tinit => k_is)
    (case c_tinit => k_is)
    (case k_tinit => k_is)
    (case a_tmix => k_is)
    (case i_tmix => k_is)
    (case l_tmix => k_is)
    (case c_tmix => k_is)
    (case k_tmix => k_is)
    (case a_tput => k_is)
    (case i_tput => k_is)
    (case l_tput => k_is)
    (case c_tput => k_is)
    (case k_tput => k_is)
    (case a_tget => k_is)
    (case i_tget => k_is)
    (case l_tget => k_is)
    (case c_tget => k_is)
    (case k_tget => k_is)
    (case a_ttake => k_is)
    (case i_ttake => k_is)
    (case l_ttake => k_is)
    (case c_ttake => k_is)
    (case k_ttake => k_is)
    (case a_tplace => k_is)
    (case i_tplace => k_is)
    (case l_tplace => k_is)
    (case c_tplace => k_is)
    (case k_tplace => k_is)
    (case a_twalk => k_is)
    (case i_twalk => k_is)
    (case l_twalk => k_is)
    (case c_twalk => k_is)
    (case k_twalk => k_is)
    (case a_tmove => k_is)
    (case i_tmove => k_is)
    (case l_tmove => k_is)
    (case c_tmove => k_is)
    (case k_tmove => k_is)
    (case a_ri => k_is)
    (case i_ri => k_is)
    (case l_ri => k_is)
    (case c_ri => k_is)
    (case k_ri => k_is)
    (case a_rmore => k_is)
    (case i_rmore => k_is)
    (case l_rmore => k_is)
    (case c_rmore => k_is)
    (case k_rmore => k_is)
    (case a_rnum => k_is)
    (case i_rnum => k_is)
    (case l_rnum => k_is)
    (case c_rnum => k_is)
    (case k_rnum => k_is)
    (case a_rrow => k_is)
    (case i_rrow => k_is)
    (case l_rrow => k_is)
    (case c_rrow => k_is)
    (case k_rrow => k_is)
    (case pg_T => k_is)
    (case hd_T => k_is)
    (case po_T => k_is)
    (case sa_T => k_is)
    (case mk_T => k_is)
    (case kc_T => k_is)
    (case n_T_seed => k_is)
    (case n_T_slots => k_is)
    (case n_T_kept => k_is)
    (case pg_R => k_is)
    (case hd_R => k_is)
    (case po_R => k_is)
    (case sa_R => k_is)
    (case mk_R => k_is)
    (case kc_R => k_is)
    (case n_R_numbers => k_is)
    (case n_R_at => k_is)
    (case g_low => k_is)
    (case g_k1 => k_is)
    (case g_k2 => k_is)
    (case g_k3 => k_is)
    (case g_k4 => k_is)
    (case g_ms => k_is)
    (case g_mb => k_is)
    (case g_c1 => k_is)
    (case g_c2 => k_is)
    (case g_c3 => k_is)
    (case g_c4 => k_is)
    (case g_c5 => k_is)
    (case g_c6 => k_is)
    (case g_c7 => k_is)
    (case g_c8 => k_is)
    (case b_len => k_is)
    (case b_reversed => k_is)
    (case b_tuple => k_is)
    (case b_sorted => k_is)
    (case b_list => k_is)
  case S =>
    intro K H xs a hO hwi hask hx
    cases hx with
    | cons h1 h2 =>
      cases h2
      cases h1 with
      | lst hs ha =>
        have e := L2.ints_dw a.1 _ ha
        subst e
        exact ⟨_, a.1, rfl, hs, hask, fun H' p hp => .lst (L2.SqL.of hp) (L2.dw_ints _)⟩
#print axioms PySem.Challenge.cw_homeplaces_s01_answers_holds
