import PyProof.Rows.All
import Wide.All
import OpenK.AllK
import Wide.FinOn
import Lean
import PyProof.EqAt
import PyProof.EqKinds
import PyProof.TupleCall
import PyProof.PassesOwn
import PyProof.StationsW
import PyProof.ZipIter
import PyProof.EnumMake
import PyProof.EnumFor
import KE.KRevIter
import PySem.Challenge.RW_bridgecrews_k05_partings
set_option Elab.async false
set_option linter.all false
set_option maxRecDepth 100000
/-! THE HAND LAYER, for ints, bools, texts, own classes, LISTS and tuples (index, slices, in, append, pop ..), calls, loops. Paste it whole ahead of your own text; what your proof does not reach may be deleted. -/
namespace L2
open PySem PySem.Spec PyProof.Rows

/-- a key: an int or a str -/
abbrev Key := Sum Int Str
def keyIs : Key → Value → Bool
  | .inl k, v => Value.isInt k v
  | .inr x, v => Value.isStrOf x v
def keyH (w : World) : Key → Int
  | .inl k => hashInt k
  | .inr x => hashStr w x
theorem keyIs_shape : ∀ {k : Key} {v : Value}, keyIs k v = true → (∃ i t, k = Sum.inl i ∧ v = Value.int i t) ∨ (∃ x t, k = Sum.inr x ∧ v = Value.str x t)
  | .inl i, v, h => by
    obtain ⟨t, e⟩ := Value.isInt_shape (k := i) (v := v) h
    exact .inl ⟨i, t, rfl, e⟩
  | .inr x, v, h => by
    obtain ⟨t, e⟩ := Value.isStrOf_shape (x := x) (v := v) h
    exact .inr ⟨x, t, rfl, e⟩
theorem keyIs_int (i : Int) (t : Tok) : keyIs (.inl i) (.int i t) = true := by simp [keyIs, Value.isInt]
theorem keyIs_str (x : Str) (t : Tok) : keyIs (.inr x) (.str x t) = true := by simp [keyIs, Value.isStrOf]
theorem key_ll (a b : Int) : decide ((Sum.inl a : Key) = Sum.inl b) = (a == b) := by
  by_cases e : a = b
  · subst e; simp
  · have h : ¬ (Sum.inl a : Key) = Sum.inl b := fun q => e (Sum.inl.inj q)
    rw [decide_eq_false h]
    exact (beq_eq_false_iff_ne.mpr e).symm
theorem key_rr (a b : Str) : decide ((Sum.inr a : Key) = Sum.inr b) = decide (a = b) := by
  by_cases e : a = b
  · subst e; simp
  · have h : ¬ (Sum.inr a : Key) = Sum.inr b := fun q => e (Sum.inr.inj q)
    rw [decide_eq_false h, decide_eq_false e]
theorem key_lr (a : Int) (b : Str) : decide ((Sum.inl a : Key) = Sum.inr b) = false := decide_eq_false (fun q => nomatch q)
theorem key_rl (a : Str) (b : Int) : decide ((Sum.inr a : Key) = Sum.inl b) = false := decide_eq_false (fun q => nomatch q)

def mixKind (prog : Program) (w : World) : PySem.KeyKind prog w Key where
  is := keyIs
  hash := keyH w
  inj := fun v a b ha hb => by
    rcases keyIs_shape ha with ⟨i, t, rfl, rfl⟩ | ⟨x, t, rfl, rfl⟩
    · rcases keyIs_shape hb with ⟨j, u, rfl, e⟩ | ⟨y, u, rfl, e⟩
      · injection e with e1 _; rw [e1]
      · exact nomatch e
    · rcases keyIs_shape hb with ⟨j, u, rfl, e⟩ | ⟨y, u, rfl, e⟩
      · exact nomatch e
      · injection e with e1 _; rw [e1]
  byValue := fun k v h => by
    rcases keyIs_shape h with ⟨i, t, rfl, rfl⟩ | ⟨x, t, rfl, rfl⟩ <;> rfl
  pyHash := fun hv h => by
    rcases keyIs_shape hv with ⟨i, t, rfl, rfl⟩ | ⟨x, t, rfl, rfl⟩
    · exact wpAny_pyHash_int h
    · exact wpAny_pyHash_str h
  eqBool := fun hu hv h => by
    rcases keyIs_shape hu with ⟨i, t, rfl, rfl⟩ | ⟨x, t, rfl, rfl⟩
    · rcases keyIs_shape hv with ⟨j, u, rfl, rfl⟩ | ⟨y, u, rfl, rfl⟩
      · rw [key_ll] at h; exact wpAny_eqBool_int h
      · rw [key_lr] at h; exact SeqAt.EqAt.int_str i t y u _ _ _ _ h
    · rcases keyIs_shape hv with ⟨j, u, rfl, rfl⟩ | ⟨y, u, rfl, rfl⟩
      · rw [key_rl] at h; exact SeqAt.EqAt.str_int x t j u _ _ _ _ h
      · rw [key_rr] at h; exact wpAny_eqBool_str h
  «strs» := fun k x t v h => by
    rcases keyIs_shape h with ⟨i, u, rfl, e⟩ | ⟨y, u, rfl, e⟩
    · exact nomatch e
    · injection e with e1 _
      subst e1
      cases v <;> rfl

theorem mixKind_int (prog : Program) (w : World) (i : Int) (t : Tok) : (mixKind prog w).is (.inl i) (.int i t) = true := keyIs_int i t
theorem mixKind_str (prog : Program) (w : World) (x : Str) (t : Tok) : (mixKind prog w).is (.inr x) (.str x t) = true := keyIs_str x t
end L2

namespace L2
open PySem PySem.Spec PyProof.Rows

/-- a value, without the heap -/
inductive V where
  | non | bl (b : Bool) | int (i : Int) | str (x : Str) | byt (b : Array UInt8) | flt (b : UInt64) | ref (a : Addr) | ty (n : String)
  deriving DecidableEq

def RelV : V → Value → Prop
  | .non, u => u = Value.none
  | .bl b, u => u = Value.bool b
  | .int i, u => ∃ t, u = Value.int i t
  | .str x, u => ∃ t, u = Value.str x t
  | .byt b, u => ∃ t, u = Value.bytes b t
  | .flt b, u => ∃ t, u = Value.float b t
  | .ref a, u => u = Value.ref a
  | .ty n, u => u = Value.type n

abbrev Vals : List V → List Value → Prop := Paired RelV
theorem Vals.length {xs : List V} {us : List Value} (r : Vals xs us) : xs.length = us.length := Paired.length r
theorem Vals.get : ∀ {xs : List V} {us : List Value} {i : Nat} {x : V}, Vals xs us → xs[i]? = some x → ∃ u, us[i]? = some u ∧ RelV x u
  | _, _, _, _, .nil, e => by simp at e
  | _, _, 0, _, .cons r _, e => by simp at e; subst e; exact ⟨_, rfl, r⟩
  | _, _, i + 1, x, .cons _ t, e => by
    obtain ⟨u, h1, h2⟩ := Vals.get (i := i) (x := x) t (by simpa using e)
    exact ⟨u, by simpa using h1, h2⟩
theorem Vals.set {x : V} {u : Value} (r : RelV x u) : ∀ {xs : List V} {us : List Value} (i : Nat), Vals xs us → Vals (xs.set i x) (us.set i u)
  | _, _, _, .nil => .nil
  | _, _, 0, .cons _ t => .cons r t
  | _, _, i + 1, .cons q t => .cons q (Vals.set r i t)
theorem Vals.append : ∀ {xs ys : List V} {us ws : List Value}, Vals xs us → Vals ys ws → Vals (xs ++ ys) (us ++ ws)
  | _, _, _, _, .nil, s => s
  | _, _, _, _, .cons r t, s => .cons r (Vals.append t s)
theorem Vals.take : ∀ {xs : List V} {us : List Value} (n : Nat), Vals xs us → Vals (xs.take n) (us.take n)
  | _, _, 0, _ => .nil
  | _, _, _ + 1, .nil => .nil
  | _, _, n + 1, .cons r t => .cons r (Vals.take n t)
theorem Vals.drop : ∀ {xs : List V} {us : List Value} (n : Nat), Vals xs us → Vals (xs.drop n) (us.drop n)
  | _, _, 0, r => r
  | _, _, _ + 1, .nil => .nil
  | _, _, n + 1, .cons _ t => Vals.drop n t
def RelO : Option V → Option Value → Prop
  | some v, some u => RelV v u
  | none, none => True
  | _, _ => False
def KV {κ : Type} : List (κ × V) → List (κ × Value) → Prop := Paired fun (p : κ × V) (q : κ × Value) => p.1 = q.1 ∧ RelV p.2 q.2

/-- a key of a dict (00_mix): an int or a text -/
def kV : Key → V
  | .inl i => .int i
  | .inr x => .str x

/-- what stands at a tracked address -/
inductive HO where
  /-- a list -/
  | lst (xs : List V)
  /-- a tuple (never changes) -/
  | tup (xs : List V)
  /-- a dict whose keys are ints and texts; one whose keys are tuples of ints and texts (the empty one is both) -/
  | dK (kvs : List (Key × V)) | dT (kvs : List (List Key × V))
  /-- a set of ints: its members, its size -/
  | set (S : Int → Bool) (n : Nat)
  /-- an instance of the class at C, its dict at dx, its attributes -/
  | ins (C dx : Addr) (fs : List (Str × V))
  /-- the dict of the instance at x -/
  | own (x : Addr)
  /-- the dict of an exception -/
  | xd (fs : List (Str × V))
  /-- a bound method, f of x -/
  | met (f x : Addr)
  /-- a range object lo, lo + 1, .. below hi -/
  | rng (lo hi : Int)
  /-- a thing that is known to the object (the script; a dict while a loop walks it): read, never written while it is so -/
  | frz (o : Obj) (u : HO)
  /-- a code object's table -/
  | tbl (ps : Array Value)
  /-- any other thing, by what is true of its one object (a def of one's own: SetO a S n := HO.ext fun h => ..) -/
  | ext (φ : Heap → Prop)

abbrev Hp := Addr → Option HO
def upd (H : Hp) (a : Addr) (o : HO) : Hp := fun b => if b = a then some o else H b
theorem upd_same {H : Hp} {a : Addr} {o : HO} : upd H a o a = some o := by unfold upd; rw [if_pos rfl]
theorem upd_ne {H : Hp} {a b : Addr} {o : HO} (h : b ≠ a) : upd H a o b = H b := by unfold upd; rw [if_neg h]
/-- two objects of different content stand apart -/
theorem ne_of {H : Hp} {a b : Addr} {o u : HO} (h : H a = some o) (h' : H b = some u) (d : o ≠ u) : a ≠ b := by
  intro e; subst e; rw [h] at h'; exact d (Option.some.inj h')
theorem ne_of_none {H : Hp} {a b : Addr} {o : HO} (h : H a = some o) (h' : H b = none) : a ≠ b := by
  intro e; subst e; rw [h] at h'; cases h'

section
variable (P : Program) (w : World)
def ObjOk (H : Hp) (h : Heap) (a : Addr) : HO → Prop
  | .lst xs => xs.length ≤ sizeLine ∧ ∃ (its : List Value) (n : Nat), Vals xs its ∧ h.get? a = some { cls := .type "list", data := .seq its.toArray n }
  | .tup xs => xs.length ≤ sizeLine ∧ ∃ its : List Value, Vals xs its ∧ IsTup h a its.toArray
  | .dK kvs => kvs.length ≤ sizeLine ∧ (a == sysModules) = false ∧ ∃ vs, KV kvs vs ∧ h.DictOf (mixKind P w) a vs
  | .dT kvs => kvs.length ≤ sizeLine ∧ (a == sysModules) = false ∧ ∃ xs : List (List Key × Addr × Value),
      Paired (fun (p : List Key × V) (q : List Key × Addr × Value) => p.1 = q.1 ∧ H q.2.1 = some (.tup (p.1.map kV)) ∧ RelV p.2 q.2.2) kvs xs ∧
      ∃ o es ep, h.get? a = some o ∧ o.ExactDict ∧ o.data = .dict es ep ∧ es.toList = xs.map (entryOfKey (tupleKind (mixKind P w))) ∧ (xs.map (·.1)).Nodup
  | .set S n => h.SetOf (intKind P w) a S n
  | .ins C dx fs => H dx = some (.own a) ∧ fs.length ≤ 1000 ∧ dx ≠ a ∧ h.get? a = some (PySem.W.instObj C dx) ∧
      ∃ mA, h.Ns1 dx mA ∧ (∀ f, RelO (fs.lookup f) (mA f)) ∧ PySem.Within mA (fs.map (·.1))
  | .own _ => ∃ o, h.get? a = some o
  | .xd fs => ∃ mA, h.Ns1 a mA ∧ ∀ f, RelO (fs.lookup f) (mA f)
  | .rng lo hi => ∃ t u v, h.get? a = some { cls := .type "range", data := .fields #[.int lo t, .int hi u, .int 1 v] }
  | .frz o u => h.get? a = some o ∧ ObjOk H h a u
  | .tbl ps => h.get? a = some { cls := .none, data := .fields ps }
  | .met f x => h.get? a = some (PySem.W.methodObj (.ref f) (.ref x))
  | .ext φ => φ h ∧ (∃ o, h.get? a = some o) ∧ ∀ h1 h2 : Heap, φ h1 → (∀ o, h1.get? a = some o → h2.get? a = some o) → φ h2
/-- the abstract heap is held -/
def HOk (H : Hp) (h : Heap) : Prop := ∀ a o, H a = some o → ObjOk P w H h a o
end

section
variable {P : Program} {w : World} {H H' : Hp} {h h' : Heap} {a : Addr} {o : HO}
theorem ObjOk.lt (x : ObjOk P w H h a o) : a < h.objs.size := by
  cases o with
  | lst xs => obtain ⟨_, _, _, _, e⟩ := x; exact Heap.lt_size e
  | tup xs => obtain ⟨_, _, _, p⟩ := x; exact p.lt
  | dK kvs => obtain ⟨_, _, _, _, o, _, _, e, _⟩ := x; exact Heap.lt_size e
  | dT kvs => obtain ⟨_, _, _, _, o, _, _, e, _⟩ := x; exact Heap.lt_size e
  | set S n => obtain ⟨o, _, _, _, e, _⟩ := x; exact Heap.lt_size e
  | ins C dx fs => obtain ⟨_, _, _, e, _⟩ := x; exact Heap.lt_size e
  | own y => obtain ⟨_, e⟩ := x; exact Heap.lt_size e
  | xd fs => obtain ⟨_, ⟨_, _, _, e, _⟩, _⟩ := x; exact Heap.lt_size e
  | rng lo hi => obtain ⟨_, _, _, e⟩ := x; exact Heap.lt_size e
  | frz ob u => obtain ⟨e, _⟩ := x; exact Heap.lt_size e
  | tbl ps => exact Heap.lt_size (show h.get? a = some _ from x)
  | met f y => exact Heap.lt_size (show h.get? a = some _ from x)
  | ext φ => obtain ⟨_, ⟨_, e⟩, _⟩ := x; exact Heap.lt_size e
theorem Paired.mapP {α β : Type} {F G : α → β → Prop} : ∀ {l₁ : List α} {l₂ : List β}, Paired F l₁ l₂ → (∀ a b, F a b → G a b) → Paired G l₁ l₂
  | _, _, .nil, _ => .nil
  | _, _, .cons r t, f => .cons (f _ _ r) (Paired.mapP t f)
/-- what an object's description leans on: its own object, its own dict, the tuples -/
theorem ObjOk.stay (x : ObjOk P w H h a o) (k : ∀ b u, (b = a ∨ H b = some (.own a)) → h.get? b = some u → h'.get? b = some u)
    (ho : ∀ b, H b = some (.own a) → H' b = some (.own a)) (ht : ∀ b xs, H b = some (.tup xs) → H' b = some (.tup xs)) : ObjOk P w H' h' a o := by
  induction o with
  | lst xs => obtain ⟨z, its, n, r, e⟩ := x; exact ⟨z, its, n, r, k _ _ (.inl rfl) e⟩
  | tup xs => obtain ⟨z, its, r, ob, e, c⟩ := x; exact ⟨z, its, r, ob, k _ _ (.inl rfl) e, c⟩
  | dK kvs => obtain ⟨z, y, vs, r, ob, es, ep, e, c⟩ := x; exact ⟨z, y, vs, r, ob, es, ep, k _ _ (.inl rfl) e, c⟩
  | dT kvs =>
    obtain ⟨z, y, xs, r, ob, es, ep, e, c⟩ := x
    exact ⟨z, y, xs, Paired.mapP r fun p q z => ⟨z.1, ht _ _ z.2.1, z.2.2⟩, ob, es, ep, k _ _ (.inl rfl) e, c⟩
  | set S n => obtain ⟨ob, es, ep, t, e, c⟩ := x; exact ⟨ob, es, ep, t, k _ _ (.inl rfl) e, c⟩
  | ins C dx fs =>
    obtain ⟨d, z, ne, e, mA, ⟨od, es, ep, e2, c⟩, r⟩ := x
    exact ⟨ho _ d, z, ne, k _ _ (.inl rfl) e, mA, ⟨od, es, ep, k _ _ (.inr d) e2, c⟩, r⟩
  | own y => obtain ⟨ob, e⟩ := x; exact ⟨ob, k _ _ (.inl rfl) e⟩
  | xd fs => obtain ⟨mA, ⟨od, es, ep, e, c⟩, r⟩ := x; exact ⟨mA, ⟨od, es, ep, k _ _ (.inl rfl) e, c⟩, r⟩
  | rng lo hi => obtain ⟨t, u, v, e⟩ := x; exact ⟨t, u, v, k _ _ (.inl rfl) e⟩
  | frz ob u ih => obtain ⟨e, q⟩ := x; exact ⟨k _ _ (.inl rfl) e, ih q⟩
  | tbl ps =>
    have e : h.get? a = some { cls := .none, data := .fields ps } := x
    show h'.get? a = some { cls := .none, data := .fields ps }
    exact k a _ (.inl rfl) e
  | met f y =>
    have e : h.get? a = some (PySem.W.methodObj (.ref f) (.ref y)) := x
    show h'.get? a = some (PySem.W.methodObj (.ref f) (.ref y))
    exact k a _ (.inl rfl) e
  | ext φ => obtain ⟨p, ⟨o, e⟩, st⟩ := x; exact ⟨st _ _ p fun o q => k _ _ (.inl rfl) q, ⟨o, k _ _ (.inl rfl) e⟩, st⟩
theorem HOk.lt (x : HOk P w H h) (e : H a = some o) : a < h.objs.size := (x a o e).lt
theorem HOk.fresh (x : HOk P w H h) (e : h.objs.size ≤ a) : H a = none := by
  cases q : H a with
  | none => rfl
  | some u => exact absurd (Nat.lt_of_lt_of_le (x.lt q) e) (Nat.lt_irrefl _)
/-- every object of the heap is kept -/
theorem HOk.kept (x : HOk P w H h) (k : ∀ b u, h.get? b = some u → h'.get? b = some u) : HOk P w H h' := fun a o e =>
  (x a o e).stay (fun b u _ q => k b u q) (fun _ q => q) fun _ _ q => q
/-- a new object is laid and tracked -/
theorem HOk.laid (x : HOk P w H h) (k : ∀ b u, h.get? b = some u → h'.get? b = some u) (hp : h.objs.size ≤ a) (new : ObjOk P w (upd H a o) h' a o) : HOk P w (upd H a o) h' := fun b u e => by
  have hn := x.fresh hp
  by_cases hb : b = a
  · subst hb; rw [upd_same] at e; cases e; exact new
  · rw [upd_ne hb] at e
    exact (x b u e).stay (fun c v _ q => k c v q) (fun c q => by rw [upd_ne (ne_of_none q hn)]; exact q) fun c xs q => by rw [upd_ne (ne_of_none q hn)]; exact q
end

/-- what may be read as u: it is u, or a known u -/
def Rd (H : Hp) (a : Addr) (u : HO) : Prop := H a = some u ∨ ∃ o, H a = some (.frz o u)
theorem Rd.ok {P : Program} {w : World} {H : Hp} {h : Heap} {a : Addr} {u : HO} (r : Rd H a u) (x : HOk P w H h) : ObjOk P w H h a u := by
  rcases r with r | ⟨o, r⟩
  · exact x a u r
  · obtain ⟨_, q⟩ := x a _ r
    exact q
/-- what may be written -/
def Mut : Option HO → Prop
  | some (.lst _) => True
  | some (.dK _) => True
  | some (.dT _) => True
  | some (.set _ _) => True
  | some (.ins _ _ _) => True
  | some (.ext _) => True
  | _ => False
section
variable {P : Program} {w : World} {H : Hp} {h h' : Heap} {x e : Addr} {o' : HO}
/-- the object at e is changed: x itself, or the dict of the instance x -/
theorem HOk.write (ok : HOk P w H h) (mu : Mut (H x)) (he : e = x ∨ H e = some (.own x)) (k : ∀ b u, b ≠ e → h.get? b = some u → h'.get? b = some u) (heo : ∃ u, h'.get? e = some u)
    (new : ObjOk P w (upd H x o') h' x o') : HOk P w (upd H x o') h' := fun b u q => by
  have nown : ∀ c y, H c = some (.own y) → c ≠ x := fun c y r z => by subst z; rw [r] at mu; exact mu
  have ntup : ∀ c xs, H c = some (.tup xs) → c ≠ x := fun c xs r z => by subst z; rw [r] at mu; exact mu
  by_cases hb : b = x
  · subst hb; rw [upd_same] at q; cases q; exact new
  · rw [upd_ne hb] at q
    by_cases hbe : b = e
    · have q' : H b = some (.own x) := by
        rcases he with z | z
        · exact absurd (hbe.trans z) hb
        · rw [hbe]; exact z
      rw [q] at q'; cases q'
      obtain ⟨v, hv⟩ := heo
      exact ⟨v, by rw [hbe]; exact hv⟩
    · refine (ok b u q).stay (fun c v hc r => k c v ?_ r) (fun c r => by rw [upd_ne (nown c b r)]; exact r) fun c xs r => by rw [upd_ne (ntup c xs r)]; exact r
      rcases hc with rfl | hc
      · exact hbe
      · rintro rfl
        rcases he with z | z
        · exact nown c b hc z
        · rw [hc] at z; cases z; exact hb rfl
end

/-! ### kept unless tracked; of the frames at fs (the callers') the slots may change (an exception that passes writes there); of the records at ex (iterators) nothing is said -/
structure Un (fs ex : List Addr) (H H' : Hp) (h h' : Heap) : Prop where
  keep : ∀ b o, h.get? b = some o → H b = none → b ∉ fs → b ∉ ex → h'.get? b = some o
  slot : ∀ b o, h.get? b = some o → H b = none → b ∈ fs → b ∉ ex → ∃ sl, h'.get? b = some { o with slots := sl }
  free : ∀ b o, h.get? b = some o → H b = none → b ∉ ex → H' b = none
  there : ∀ b o, h.get? b = some o → b ∉ ex → ∃ o', h'.get? b = some o'
  tups : ∀ b xs, H b = some (.tup xs) → H' b = some (.tup xs)
  frzs : ∀ b o u, H b = some (.frz o u) → H' b = some (.frz o u)
  tbls : ∀ b ps, H b = some (.tbl ps) → ∃ more, H' b = some (.tbl (ps ++ more))
section
variable {fs fs' ex ex' : List Addr} {H H1 H2 : Hp} {h h1 h2 h' : Heap} {a x e : Addr} {o : HO}
theorem Un.any (u : Un fs ex H H1 h h1) {b : Addr} {ob : Obj} (q : h.get? b = some ob) (n : H b = none) (hx : b ∉ ex) : ∃ sl, h1.get? b = some { ob with slots := sl } := by
  by_cases hb : b ∈ fs
  · exact u.slot b ob q n hb hx
  · exact ⟨ob.slots, u.keep b ob q n hb hx⟩
theorem Un.kept (k : ∀ b u, h.get? b = some u → h'.get? b = some u) : Un fs ex H H h h' :=
  ⟨fun b ob q _ _ _ => k b ob q, fun b ob q _ _ _ => ⟨ob.slots, k b ob q⟩, fun _ _ _ n _ => n, fun b ob q _ => ⟨ob, k b ob q⟩, fun _ _ q => q, fun _ _ _ q => q, fun _ ps q => ⟨#[], by rw [q]; simp⟩⟩
theorem Un.refl : Un fs ex H H h h := Un.kept fun _ _ q => q
theorem Un.laid (k : ∀ b u, h.get? b = some u → h'.get? b = some u) (hp : h.objs.size ≤ a) (hn : H a = none) : Un fs ex H (upd H a o) h h' where
  keep := fun b u q _ _ _ => k b u q
  slot := fun b u q _ _ _ => ⟨u.slots, k b u q⟩
  free := fun b u q n _ => by rw [upd_ne (Nat.ne_of_lt (Nat.lt_of_lt_of_le (Heap.lt_size q) hp))]; exact n
  there := fun b u q _ => ⟨u, k b u q⟩
  tups := fun b xs q => by rw [upd_ne (ne_of_none q hn)]; exact q
  frzs := fun b u xs q => by rw [upd_ne (ne_of_none q hn)]; exact q
  tbls := fun b ps q => ⟨#[], by rw [upd_ne (ne_of_none q hn), q]; simp⟩
theorem Un.write (mu : Mut (H x)) (he : e = x ∨ H e = some (.own x)) (k : ∀ b u, b ≠ e → h.get? b = some u → h'.get? b = some u) (heo : ∃ u, h'.get? e = some u) : Un fs ex H (upd H x o) h h' := by
  have hx : ∀ b, H b = none → b ≠ x := fun b n z => by subst z; rw [n] at mu; exact mu
  have hb : ∀ b, H b = none → b ≠ e := fun b n z => by
    subst z
    rcases he with r | r
    · exact hx b n r
    · rw [n] at r; cases r
  have hm : ∀ b u, H b = some u → ¬ Mut (some u) → b ≠ x := fun b u q nm z => by subst z; rw [q] at mu; exact nm mu
  refine ⟨fun b u q n _ _ => k b u (hb b n) q, fun b u q n _ _ => ⟨u.slots, k b u (hb b n) q⟩, fun b u q n _ => by rw [upd_ne (hx b n)]; exact n, fun b u q _ => ?_,
    fun b xs q => by rw [upd_ne (hm b _ q fun z => z)]; exact q, fun b u xs q => by rw [upd_ne (hm b _ q fun z => z)]; exact q, fun b ps q => ⟨#[], by rw [upd_ne (hm b _ q fun z => z), q]; simp⟩⟩
  by_cases hbe : b = e
  · subst hbe; exact heo
  · exact ⟨u, k b u hbe q⟩
end

/-! ### the heap without what is tracked -/
def trk (h : Heap) (H : Hp) : List Addr := (List.range h.objs.size).filter fun a => (H a).isSome
def hidT (h : Heap) (H : Hp) : Heap := PySem.W.hideAll h (trk h H)
theorem hidT_size (h : Heap) (H : Hp) : (hidT h H).objs.size = h.objs.size := PySem.W.hideAll_size _ _
theorem hidT_get {h : Heap} {H : Hp} {b : Addr} {o : Obj} (e : h.get? b = some o) (n : H b = none) : (hidT h H).get? b = some o :=
  PySem.W.hideAll_get _ e fun hm => by
    have q : (H b).isSome = true := (List.mem_filter.mp hm).2
    rw [n] at q; simp at q
theorem of_hidT {h : Heap} {H : Hp} {b : Addr} {o : Obj} (e : (hidT h H).get? b = some o) : h.get? b = some o ∧ H b = none := by
  have e' : h.get? b = some o := PySem.W.of_hideAll (trk h H) e
  refine ⟨e', ?_⟩
  cases q : H b with
  | none => rfl
  | some x =>
    have hm : b ∈ trk h H := List.mem_filter.mpr ⟨List.mem_range.mpr (Heap.lt_size e'), by simp [q]⟩
    have z : (hidT h H).get? b = none := PySem.W.hideAll_none (trk h H) hm
    rw [z] at e; cases e

/-! ### OpenK's ledger, filled with every new object but one -/
end L2

namespace L2
open PySem PySem.Spec PyProof.Rows

/-- the module's facts, over the base: the heap at the law's entry without what is tracked there -/
structure Mod (K : PySem.W.Frag) (mg : Str → Option Value) (base : Heap) : Prop where
  kin : K.In base
  glob : base.Ns mainGlobals mg
  blt : ∃ mb, base.Ns builtinsNs mb ∧ ∀ x : Str, x ≠ "__name__" → mb x = bootBuiltins x
  nolimit : base.NoLimit

/-- the context: a def's body (or a comprehension's block) running. base: fixed through the whole law; s₀, H₀: the entry; outer: the frames whose slots others may change (a def's callers); stack: all frames that run;
   ex: iterators that were made ahead of the entry and are walked here (a comprehension's); fn: the names whose cells were made at the entry (a def: all; a comprehension's block: its own); calm: not within an except suite; pn: pins that every state bears; xe: what is wanted of an exception that leaves the code -/
structure Cx where
  prog : Program
  w : World
  K : PySem.W.Frag
  mg : Str → Option Value
  base : Heap
  A : Around
  N : List Str
  s₀ : Shared
  H₀ : Hp
  env : Env
  outer : List Env
  stack : List Env
  ex : List Addr
  fn : Str → Bool
  calm : Bool
  pn : List (Addr × Obj)
  xe : Value → Shared → Prop
/-- the callers' frames -/
def frs (l : List Env) : List Addr := l.filterMap (·.frame)
abbrev Cx.fs (X : Cx) : List Addr := frs X.outer

def Vis (sc : Scope) (x : Str) : Prop := sc.names.lookup x = some .local ∨ sc.names.lookup x = some .cell ∨ sc.names.lookup x = some .free
def Loc (sc : Scope) (x : Str) : Prop := sc.names.lookup x = some .local ∨ sc.names.lookup x = some .cell
def Look (env : Env) (h : Heap) (m : Str → Option Value) (x : Str) (u : Value) : Prop :=
  (env.kindOf x = some .local ∧ m x = some u) ∨ ((env.kindOf x = some .cell ∨ env.kindOf x = some .free) ∧ ∃ c, env.cells.lookup x = some c ∧ h.IsCell c (some u))

structure Cx.Ok (X : Cx) : Prop where
  mod : Mod X.K X.mg X.base
  kind : X.env.scope.kind = .function
  glob : X.env.globals = mainGlobals
  blt : X.env.builtins = builtinsNs
  above : X.s₀.heap.objs.size ≤ X.env.locals
  inj : ∀ x y c, X.env.cells.lookup x = some c → X.env.cells.lookup y = some c → x = y
  has : ∀ x, (X.env.kindOf x = some .cell ∨ X.env.kindOf x = some .free) → ∃ c, X.env.cells.lookup x = some c
  cab : ∀ x c, X.fn x = true → X.env.cells.lookup x = some c → X.s₀.heap.objs.size ≤ c
  hd : X.calm = true → X.A.handled = none
  frames : X.A.frames = some X.stack
  stk : X.stack = X.outer ∨ (X.stack = X.env :: X.outer ∧ X.env.frame = some X.env.locals)
  exf : ∀ b ∈ X.ex, b ≠ X.env.locals ∧ ∀ x c, X.env.cells.lookup x = some c → c ≠ b
  bs : ∀ b o, X.base.get? b = some o → X.s₀.heap.get? b = some o ∧ X.H₀ b = none
  bsz : X.base.objs.size ≤ X.s₀.heap.objs.size
  noex : ∀ b o, X.base.get? b = some o → b ∉ X.ex
  exfs : ∀ b ∈ X.ex, b ∉ X.fs
  funs : X.s₀.heap.FunFrames X.base X.outer
  frf : ∀ b ∈ X.fs, X.H₀ b = none

structure Inv (X : Cx) (pins : List (Addr × Obj)) (σ : List (Option V)) (H : Hp) (s : Shared) : Prop where
  ok : X.Ok
  os : s.os = X.s₀.os
  bare : AllBare s.gens
  base : Un X.fs X.ex X.H₀ H X.s₀.heap s.heap
  loc : ∃ m, s.heap.Ns X.env.locals m ∧ ∀ (i : Nat) (x : Str) (v : V), X.N[i]? = some x → σ[i]? = some (some v) → Vis X.env.scope x → ∃ u, RelV v u ∧ Look X.env s.heap m x u
  cell : ∀ x c, X.env.cells.lookup x = some c → ∃ v, s.heap.IsCell c v
  free : H X.env.locals = none
  freeC : ∀ x c, X.env.cells.lookup x = some c → H c = none
  pin : ∀ p ∈ X.pn ++ pins, s.heap.get? p.1 = some p.2 ∧ H p.1 = none ∧ p.1 ≠ X.env.locals ∧ p.1 ∉ X.fs ∧ ∀ v, p.2.data ≠ .cell v
  hok : HOk X.prog X.w H s.heap
  len : σ.length = X.N.length

section
variable {X : Cx} {pins : List (Addr × Obj)} {σ : List (Option V)} {H H' : Hp} {s : Shared} {h' : Heap}

theorem Cx.Ok.nofr (ok : X.Ok) {b : Addr} {o : Obj} (e : X.base.get? b = some o) : b ∉ X.fs := fun hb => by
  have := (ok.funs.mem hb).1
  rw [e] at this; cases this
theorem Inv.bs (I : Inv X pins σ H s) : ∀ b o, X.base.get? b = some o → s.heap.get? b = some o ∧ H b = none := fun b o e =>
  ⟨I.base.keep b o (I.ok.bs b o e).1 (I.ok.bs b o e).2 (I.ok.nofr e) (I.ok.noex b o e), I.base.free b o (I.ok.bs b o e).1 (I.ok.bs b o e).2 (I.ok.noex b o e)⟩
theorem Inv.bk (I : Inv X pins σ H s) : ∀ b o, X.base.get? b = some o → s.heap.get? b = some o := fun b o e => (I.bs b o e).1
theorem Inv.mod (I : Inv X pins σ H s) : Mod X.K X.mg X.base := I.ok.mod
theorem Inv.kIn (I : Inv X pins σ H s) : X.K.In s.heap := I.ok.mod.kin.keeps I.bk
/-- the frame over the base: for OpenK's rules (K.In X.base is I.mod.kin) -/
theorem Inv.fr (I : Inv X pins σ H s) : ∃ m, Fr X.base X.env.locals s.heap m :=
  let ⟨m, hn, _⟩ := I.loc
  ⟨m, hn, I.bk, Nat.le_trans I.ok.bsz I.ok.above⟩
theorem Inv.lt (I : Inv X pins σ H s) : X.env.locals < s.heap.objs.size := let ⟨_, hn, _⟩ := I.loc; hn.lt
theorem Inv.sz (I : Inv X pins σ H s) : X.s₀.heap.objs.size ≤ s.heap.objs.size := Nat.le_trans I.ok.above (Nat.le_of_lt I.lt)
theorem Inv.nofs (I : Inv X pins σ H s) {a : Addr} (h : s.heap.objs.size ≤ a) : a ∉ X.fs := fun hb => by
  obtain ⟨_, o, ho, _⟩ := I.ok.funs.mem hb
  exact absurd (Nat.lt_of_lt_of_le (Heap.lt_size ho) (Nat.le_trans I.sz h)) (Nat.lt_irrefl _)
theorem Inv.cne (I : Inv X pins σ H s) : ∀ x c, X.env.cells.lookup x = some c → c ≠ X.env.locals := fun x c e z => by
  obtain ⟨v, o, ho, hd⟩ := I.cell x c e
  obtain ⟨m, ⟨o', es, ep, ho', hd', _⟩, _⟩ := I.loc
  rw [z, ho'] at ho; cases ho; rw [hd'] at hd; cases hd
theorem Inv.funs (I : Inv X pins σ H s) : s.heap.FunFrames X.base X.outer := by
  have all : ∀ (l : List Env), (∀ b ∈ frs l, b ∈ X.fs) → X.s₀.heap.FunFrames X.base l → s.heap.FunFrames X.base l := by
    intro l
    induction l with
    | nil => intro _ _; trivial
    | cons env r ih =>
      intro hs hl
      obtain ⟨hk, ⟨L, o, hf, hn, ho, hd⟩, hr⟩ := hl
      have hL : L ∈ X.fs := hs L (by unfold frs; rw [List.filterMap_cons, hf]; exact List.mem_cons_self)
      obtain ⟨sl, e⟩ := I.base.slot L o ho (I.ok.frf L hL) hL fun z => I.ok.exfs L z hL
      exact ⟨hk, ⟨L, _, hf, hn, e, hd⟩, ih (fun b hb => hs b (by unfold frs; rw [List.filterMap_cons, hf]; exact List.mem_cons_of_mem _ hb)) hr⟩
  exact all X.outer (fun _ hb => hb) I.ok.funs

/-- the frames that run, for a call -/
theorem Inv.stack (I : Inv X pins σ H s) : s.heap.FunFrames X.base X.stack := by
  rcases I.ok.stk with e | ⟨e, hf⟩
  · rw [e]; exact I.funs
  · rw [e]
    obtain ⟨m, hn, _⟩ := I.loc
    refine .cons (by rw [I.ok.kind]; decide) hf hn ?_ I.funs
    exact Heap.get?_none_of_le (Nat.le_trans I.ok.bsz I.ok.above)
theorem Inv.stkSub (I : Inv X pins σ H s) : ∀ b ∈ frs X.stack, b ∈ X.env.locals :: X.fs := fun b hb => by
  rcases I.ok.stk with e | ⟨e, hf⟩
  · rw [e] at hb; exact List.mem_cons_of_mem _ hb
  · rw [e] at hb
    unfold frs at hb
    rw [List.filterMap_cons, hf] at hb
    exact hb
theorem Inv.stkFree (I : Inv X pins σ H s) : ∀ b ∈ frs X.stack, H b = none := fun b hb => by
  rcases List.mem_cons.mp (I.stkSub b hb) with e | hb
  · rw [e]; exact I.free
  · obtain ⟨_, o, ho, _⟩ := I.ok.funs.mem hb
    exact I.base.free b o ho (I.ok.frf b hb) fun z => I.ok.exfs b z hb

/-- THE STEP: the untracked objects but the frame and the records at ch are kept (the callers' frames up to slots), the frame's map is kept, the new abstract heap is held -/
theorem Inv.step {g' : Array GenState} {t' : Nat} {d' : Drawn} {ch : List Addr} (I : Inv X pins σ H s)
    (hch : ∀ b ∈ ch, (b ∈ X.ex ∨ X.s₀.heap.objs.size ≤ b) ∧ b ≠ X.env.locals ∧ (∀ x c, X.env.cells.lookup x = some c → c ≠ b) ∧ ∀ p ∈ X.pn ++ pins, p.1 ≠ b)
    (keep : ∀ b o, b ≠ X.env.locals → b ∉ X.fs → b ∉ ch → s.heap.get? b = some o → H b = none → h'.get? b = some o)
    (slot : ∀ b o, b ≠ X.env.locals → b ∈ X.fs → b ∉ ch → s.heap.get? b = some o → H b = none → ∃ sl, h'.get? b = some { o with slots := sl }) (free : ∀ b o, b ∉ ch → s.heap.get? b = some o → H b = none → H' b = none)
    (there : ∀ b o, b ∉ ch → s.heap.get? b = some o → ∃ o', h'.get? b = some o')
    (tups : ∀ b xs, H b = some (.tup xs) → H' b = some (.tup xs)) (frzs : ∀ b o u, H b = some (.frz o u) → H' b = some (.frz o u)) (tbls : ∀ b ps, H b = some (.tbl ps) → ∃ more, H' b = some (.tbl (ps ++ more)))
    (ns : ∀ m, s.heap.Ns X.env.locals m → h'.Ns X.env.locals m) (hok : HOk X.prog X.w H' h') (hg : AllBare g') :
    Inv X pins σ H' { s with heap := h', gens := g', drawn := d', toks := t' } := by
  have neL : ∀ b o, X.s₀.heap.get? b = some o → b ≠ X.env.locals := fun b o e => Nat.ne_of_lt (Nat.lt_of_lt_of_le (Heap.lt_size e) I.ok.above)
  have neC : ∀ b o, X.s₀.heap.get? b = some o → b ∉ X.ex → b ∉ ch := fun b o e hx hb => by
    rcases (hch b hb).1 with z | z
    · exact hx z
    · exact absurd (Nat.lt_of_lt_of_le (Heap.lt_size e) z) (Nat.lt_irrefl _)
  have cellK : ∀ x c, X.env.cells.lookup x = some c → ∀ v, s.heap.IsCell c v → h'.IsCell c v := fun x c e v ⟨o, ho, hd⟩ => by
    have nch : c ∉ ch := fun z => (hch c z).2.2.1 x c e rfl
    by_cases hc : c ∈ X.fs
    · obtain ⟨sl, q⟩ := slot c o (I.cne x c e) hc nch ho (I.freeC x c e)
      exact ⟨_, q, hd⟩
    · exact ⟨o, keep c o (I.cne x c e) hc nch ho (I.freeC x c e), hd⟩
  refine ⟨I.ok, I.os, hg, ⟨fun b o e n hb hx => ?_, fun b o e n hb hx => ?_, fun b o e n hx => ?_, fun b o e hx => ?_, fun b xs e => tups b xs (I.base.tups b xs e), fun b o xs e => frzs b o xs (I.base.frzs b o xs e), fun b ps e => ?_⟩, ?_, fun x c e => ?_, ?_, fun x c e => ?_, fun p hp => ?_, hok, I.len⟩
  · exact keep b o (neL b o e) hb (neC b o e hx) (I.base.keep b o e n hb hx) (I.base.free b o e n hx)
  · obtain ⟨sl, e1⟩ := I.base.slot b o e n hb hx
    obtain ⟨sl', e2⟩ := slot b _ (neL b o e) hb (neC b o e hx) e1 (I.base.free b o e n hx)
    exact ⟨sl', e2⟩
  · obtain ⟨o', e1⟩ := I.base.there b o e hx
    exact free b o' (neC b o e hx) e1 (I.base.free b o e n hx)
  · obtain ⟨o', e1⟩ := I.base.there b o e hx
    exact there b o' (neC b o e hx) e1
  · obtain ⟨m1, e1⟩ := I.base.tbls b ps e
    obtain ⟨m2, e2⟩ := tbls b _ e1
    exact ⟨m1 ++ m2, by rw [e2, Array.append_assoc]⟩
  · obtain ⟨m, hn, hl⟩ := I.loc
    refine ⟨m, ns m hn, fun i x v e1 e2 e3 => ?_⟩
    obtain ⟨u, r, l⟩ := hl i x v e1 e2 e3
    refine ⟨u, r, ?_⟩
    rcases l with l | ⟨k, c, e, z⟩
    · exact .inl l
    · exact .inr ⟨k, c, e, cellK x c e _ z⟩
  · obtain ⟨v, z⟩ := I.cell x c e
    exact ⟨v, cellK x c e v z⟩
  · obtain ⟨m, ⟨o, _, _, ho, _⟩, _⟩ := I.loc
    exact free _ o (fun z => (hch _ z).2.1 rfl) ho I.free
  · obtain ⟨v, o, ho, hd⟩ := I.cell x c e
    exact free c o (fun z => (hch c z).2.2.1 x c e rfl) ho (I.freeC x c e)
  · obtain ⟨e, n, ne, nf, d⟩ := I.pin p hp
    have nch : p.1 ∉ ch := fun z => (hch p.1 z).2.2.2 p hp rfl
    exact ⟨keep p.1 p.2 ne nf nch e n, free p.1 p.2 nch e n, ne, nf, d⟩
/-- .. where the frame's own object is kept too -/
theorem Inv.un {t' : Nat} (I : Inv X pins σ H s) (u : Un X.fs [] H H' s.heap h') (hok : HOk X.prog X.w H' h') : Inv X pins σ H' { s with heap := h', toks := t' } := by
  obtain ⟨m, ⟨o, es, ep, ho, r⟩, _⟩ := id I.loc
  obtain ⟨sl, hL⟩ := u.any ho I.free (by simp)
  exact I.step (g' := s.gens) (d' := s.drawn) (ch := []) (fun _ z => nomatch z) (fun b o _ hb _ e n => u.keep b o e n hb (by simp)) (fun b o _ hb _ e n => u.slot b o e n hb (by simp)) (fun b o _ e n => u.free b o e n (by simp)) (fun b o _ e => u.there b o e (by simp)) u.tups u.frzs u.tbls (fun m' hm => by
    obtain ⟨o', es', ep', ho', r'⟩ := hm
    rw [ho] at ho'; cases ho'
    exact ⟨_, es', ep', hL, r'⟩) hok I.bare
/-- behind a call (or a comprehension's block): the slots of this frame may have changed too, the records at ch may have turned -/
theorem Inv.call {g' : Array GenState} {t' : Nat} {d' : Drawn} {ch : List Addr} (I : Inv X pins σ H s) (u : Un (frs X.stack) ch H H' s.heap h') (hok : HOk X.prog X.w H' h') (hg : AllBare g')
    (hch : ∀ b ∈ ch, (b ∈ X.ex ∨ X.s₀.heap.objs.size ≤ b) ∧ b ≠ X.env.locals ∧ (∀ x c, X.env.cells.lookup x = some c → c ≠ b) ∧ ∀ p ∈ X.pn ++ pins, p.1 ≠ b) :
    Inv X pins σ H' { s with heap := h', gens := g', drawn := d', toks := t' } := by
  obtain ⟨m, ⟨o, es, ep, ho, r⟩, _⟩ := id I.loc
  obtain ⟨sl, hL⟩ := u.any ho I.free fun z => (hch _ z).2.1 rfl
  exact I.step (ch := ch) hch (fun b o hL hb hc e n => u.keep b o e n (fun z => (List.mem_cons.mp (I.stkSub b z)).elim hL hb) hc) (fun b o _ _ hc e n => u.any e n hc) (fun b o hc e n => u.free b o e n hc) (fun b o hc e => u.there b o e hc) u.tups u.frzs u.tbls (fun m' hm => by
    obtain ⟨o', es', ep', ho', r'⟩ := hm
    rw [ho] at ho'; cases ho'
    exact ⟨_, es', ep', hL, r'⟩) hok hg
/-- an untracked record of ours (an iterator) has turned -/
theorem Inv.turned {t' : Nat} {it : Addr} (I : Inv X pins σ H s) (k : ∀ b o, b ≠ it → s.heap.get? b = some o → h'.get? b = some o) (hn : H it = none) (hL : it ≠ X.env.locals)
    (h1 : it ∈ X.ex ∨ X.s₀.heap.objs.size ≤ it) (h2 : ∀ x c, X.env.cells.lookup x = some c → c ≠ it) (h3 : ∀ p ∈ X.pn ++ pins, p.1 ≠ it) : Inv X pins σ H { s with heap := h', toks := t' } := by
  have nit : ∀ b u, H b = some u → b ≠ it := fun b u e z => by rw [z, hn] at e; cases e
  refine I.step (g' := s.gens) (d' := s.drawn) (ch := [it]) (fun b hb => ?_) (fun b o _ _ hc e _ => k b o (fun z => hc (by simp [z])) e) (fun b o _ _ hc e _ => ⟨o.slots, k b o (fun z => hc (by simp [z])) e⟩) (fun _ _ _ _ n => n)
    (fun b o hc e => ⟨o, k b o (fun z => hc (by simp [z])) e⟩) (fun _ _ e => e) (fun _ _ _ e => e) (fun b ps e => ⟨#[], by rw [e]; simp⟩) (fun m hm => ?_) (fun b u e => ?_) I.bare
  · have e : b = it := by simpa using hb
    subst e
    exact ⟨h1, hL, h2, h3⟩
  · obtain ⟨o, es, ep, ho, r⟩ := hm
    exact ⟨o, es, ep, k _ o (Ne.symm hL) ho, r⟩
  · refine (I.hok b u e).stay (fun c v hc q => k c v ?_ q) (fun _ q => q) fun _ _ q => q
    rcases hc with z | z
    · rw [z]; exact nit b u e
    · exact nit c _ z
theorem Inv.tok (I : Inv X pins σ H s) (t : Nat) : Inv X pins σ H { s with toks := t } := I.un (h' := s.heap) (t' := t) Un.refl I.hok
/-- all objects kept -/
theorem Inv.kept {t' : Nat} (I : Inv X pins σ H s) (k : ∀ b u, s.heap.get? b = some u → h'.get? b = some u) : Inv X pins σ H { s with heap := h', toks := t' } := I.un (Un.kept k) (I.hok.kept k)
/-- a new object laid and tracked -/
theorem Inv.laid {a : Addr} {o : HO} {t' : Nat} (I : Inv X pins σ H s) (k : ∀ b u, s.heap.get? b = some u → h'.get? b = some u) (hp : s.heap.objs.size ≤ a) (new : ObjOk X.prog X.w (upd H a o) h' a o) :
    Inv X pins σ (upd H a o) { s with heap := h', toks := t' } := I.un (Un.laid k hp (I.hok.fresh hp)) (I.hok.laid k hp new)
/-- an object written -/
theorem Inv.write {x e : Addr} {o : HO} {t' : Nat} (I : Inv X pins σ H s) (mu : Mut (H x)) (he : e = x ∨ H e = some (.own x)) (k : ∀ b u, b ≠ e → s.heap.get? b = some u → h'.get? b = some u) (heo : ∃ u, h'.get? e = some u)
    (new : ObjOk X.prog X.w (upd H x o) h' x o) : Inv X pins σ (upd H x o) { s with heap := h', toks := t' } := I.un (Un.write mu he k heo) (I.hok.write mu he k heo new)
/-- forgetting slots, pins -/
theorem Inv.weak {σ' : List (Option V)} (I : Inv X pins σ H s) (hl : σ'.length = σ.length) (w : ∀ (i : Nat) v, σ'[i]? = some (some v) → σ[i]? = some (some v)) : Inv X pins σ' H s :=
  ⟨I.ok, I.os, I.bare, I.base, let ⟨m, hn, hl'⟩ := I.loc; ⟨m, hn, fun i x v e1 e2 e3 => hl' i x v e1 (w i v e2) e3⟩, I.cell, I.free, I.freeC, I.pin, I.hok, hl.trans I.len⟩
theorem Inv.pins_of {pins' : List (Addr × Obj)} (I : Inv X pins σ H s) (h : ∀ p ∈ pins', s.heap.get? p.1 = some p.2 ∧ H p.1 = none ∧ p.1 ≠ X.env.locals ∧ p.1 ∉ X.fs ∧ ∀ v, p.2.data ≠ .cell v) : Inv X pins' σ H s :=
  ⟨I.ok, I.os, I.bare, I.base, I.loc, I.cell, I.free, I.freeC, fun p hp => (List.mem_append.mp hp).elim (fun z => I.pin p (List.mem_append_left _ z)) (h p), I.hok, I.len⟩

theorem nodup_ix {N : List Str} (hN : N.Nodup) {i j : Nat} {x : Str} (a : N[i]? = some x) (b : N[j]? = some x) : i = j := by
  obtain ⟨h1, e1⟩ := List.getElem?_eq_some_iff.mp a
  obtain ⟨h2, e2⟩ := List.getElem?_eq_some_iff.mp b
  exact (List.getElem_inj hN).mp (e1.trans e2.symm)

/-- a name is stored; what changed -/
theorem store_ok2 {M : Model} {A : Around} {E : Value → Shared → Prop} {i : Nat} {x : Str} {v : V} {u : Value} {Q : Unit → Shared → Prop} (I : Inv X pins σ H s) (hN : X.N.Nodup) (hi : X.N[i]? = some x) (hx : Loc X.env.scope x) (r : RelV v u)
    (h : ∀ s', Inv X pins (σ.set i (some v)) H s' → (∃ a, Heap.SameBut a s.heap s'.heap ∧ (a = X.env.locals ∨ X.env.cells.lookup x = some a)) → Q () s') (hf : X.fn x = true ∨ X.env.scope.names.lookup x = some .local := by first | exact .inl rfl | exact .inr rfl | assumption) : wpAny M A (storeName X.env x u) Q E s := by
  obtain ⟨m, hn, hl⟩ := id I.loc
  have hcls : (X.env.scope.kind == .class || (X.env.scope.kind == .module && X.env.locals != X.env.globals)) = false := by rw [I.ok.kind]; rfl
  have hiσ : i < σ.length := by rw [I.len]; exact (List.getElem?_eq_some_iff.mp hi).1
  have cne := I.cne
  have tracked : ∀ {a : Addr} {h' : Heap}, (∃ o, s.heap.get? a = some o ∧ H a = none) → Heap.SameBut a s.heap h' → HOk X.prog X.w H h' := fun {a h'} ha hs b ob e => by
    obtain ⟨_, _, hfree⟩ := ha
    refine (I.hok b ob e).stay (fun c w' hc q => (hs.2 c ?_).trans q) (fun _ q => q) fun _ _ q => q
    rintro rfl
    rcases hc with rfl | hc
    · rw [hfree] at e; cases e
    · rw [hfree] at hc; cases hc
  rcases hx with hk | hk
  · refine wpAny_storeName_local hk hn (fun h' hn' hs => ?_) hcls
    obtain ⟨oL, _, _, hoL, _⟩ := id hn
    refine h _ ⟨I.ok, I.os, I.bare, ⟨fun b o e n hb hx => ?_, fun b o e n hb hx => ?_, I.base.free, fun b o e hx => ?_, I.base.tups, I.base.frzs, I.base.tbls⟩, ⟨_, hn', fun j y v' e1 e2 e3 => ?_⟩, fun y c e => ?_, I.free, I.freeC, fun p hp => ?_, tracked ⟨oL, hoL, I.free⟩ hs, by simpa using I.len⟩ ⟨_, hs, .inl rfl⟩
    · exact (hs.2 b (Nat.ne_of_lt (Nat.lt_of_lt_of_le (Heap.lt_size e) I.ok.above))).trans (I.base.keep b o e n hb hx)
    · obtain ⟨sl, e1⟩ := I.base.slot b o e n hb hx
      exact ⟨sl, (hs.2 b (Nat.ne_of_lt (Nat.lt_of_lt_of_le (Heap.lt_size e) I.ok.above))).trans e1⟩
    · obtain ⟨o', e1⟩ := I.base.there b o e hx
      exact ⟨o', (hs.2 b (Nat.ne_of_lt (Nat.lt_of_lt_of_le (Heap.lt_size e) I.ok.above))).trans e1⟩
    · by_cases hj : j = i
      · subst hj
        rw [hi] at e1; cases e1
        rw [List.getElem?_set_self hiσ] at e2
        cases e2
        exact ⟨u, r, .inl ⟨hk, by simp⟩⟩
      · rw [List.getElem?_set_ne (Ne.symm hj)] at e2
        obtain ⟨u', r', q⟩ := hl j y v' e1 e2 e3
        refine ⟨u', r', ?_⟩
        rcases q with ⟨k, e⟩ | ⟨k, c, e, z⟩
        · refine .inl ⟨k, ?_⟩
          have : y ≠ x := fun e => hj (nodup_ix hN e1 (e ▸ hi))
          simp [this, e]
        · exact .inr ⟨k, c, e, z.sameBut hs (cne y c e)⟩
    · obtain ⟨w', z⟩ := I.cell y c e
      exact ⟨w', z.sameBut hs (cne y c e)⟩
    · obtain ⟨e, n, ne, nf, d⟩ := I.pin p hp
      exact ⟨(hs.2 p.1 ne).trans e, n, ne, nf, d⟩
  · have hfn : X.fn x = true := by
      rcases hf with z | z
      · exact z
      · rw [z] at hk; cases hk
    obtain ⟨c, hc⟩ := I.ok.has x (.inl hk)
    obtain ⟨w', z⟩ := I.cell x c hc
    refine wpAny_storeName_cell I.ok.kind hk hc z (fun h' hc' hs => ?_)
    obtain ⟨oc, hoc, hocd⟩ := id z
    refine h { s with heap := h' } ⟨I.ok, I.os, I.bare, ⟨fun b o e n hb hx => ?_, fun b o e n hb hx => ?_, I.base.free, fun b o e hx => ?_, I.base.tups, I.base.frzs, I.base.tbls⟩, ⟨m, hn.sameBut hs (Ne.symm (cne x c hc)), fun j y v' e1 e2 e3 => ?_⟩, fun y c' e => ?_, I.free, I.freeC, fun p hp => ?_, tracked ⟨oc, hoc, I.freeC x c hc⟩ hs, by simpa using I.len⟩ ⟨c, hs, .inr hc⟩
    · exact (hs.2 b (Nat.ne_of_lt (Nat.lt_of_lt_of_le (Heap.lt_size e) (I.ok.cab x c hfn hc)))).trans (I.base.keep b o e n hb hx)
    · obtain ⟨sl, e1⟩ := I.base.slot b o e n hb hx
      exact ⟨sl, (hs.2 b (Nat.ne_of_lt (Nat.lt_of_lt_of_le (Heap.lt_size e) (I.ok.cab x c hfn hc)))).trans e1⟩
    · obtain ⟨o', e1⟩ := I.base.there b o e hx
      exact ⟨o', (hs.2 b (Nat.ne_of_lt (Nat.lt_of_lt_of_le (Heap.lt_size e) (I.ok.cab x c hfn hc)))).trans e1⟩
    · by_cases hj : j = i
      · subst hj
        rw [hi] at e1; cases e1
        rw [List.getElem?_set_self hiσ] at e2
        cases e2
        exact ⟨u, r, .inr ⟨.inl hk, c, hc, hc'⟩⟩
      · rw [List.getElem?_set_ne (Ne.symm hj)] at e2
        obtain ⟨u', r', q⟩ := hl j y v' e1 e2 e3
        refine ⟨u', r', ?_⟩
        rcases q with q | ⟨k, c', e, z'⟩
        · exact .inl q
        · refine .inr ⟨k, c', e, z'.sameBut hs ?_⟩
          rintro rfl
          exact hj (nodup_ix hN e1 (I.ok.inj _ _ _ e hc ▸ hi))
    · by_cases hcc : c' = c
      · subst hcc; exact ⟨_, hc'⟩
      · obtain ⟨w2, z2⟩ := I.cell y c' e
        exact ⟨w2, z2.sameBut hs hcc⟩
    · obtain ⟨e, n, ne, nf, d⟩ := I.pin p hp
      refine ⟨(hs.2 p.1 ?_).trans e, n, ne, nf, d⟩
      intro q
      rw [q, hoc] at e
      have q' : oc = p.2 := Option.some.inj e
      exact d w' (by rw [← q']; exact hocd)
theorem store_ok {M : Model} {A : Around} {E : Value → Shared → Prop} {i : Nat} {x : Str} {v : V} {u : Value} {Q : Unit → Shared → Prop} (I : Inv X pins σ H s) (hN : X.N.Nodup) (hi : X.N[i]? = some x) (hx : Loc X.env.scope x) (r : RelV v u)
    (h : ∀ s', Inv X pins (σ.set i (some v)) H s' → Q () s') (hf : X.fn x = true ∨ X.env.scope.names.lookup x = some .local := by first | exact .inl rfl | exact .inr rfl | assumption) : wpAny M A (storeName X.env x u) Q E s :=
  store_ok2 I hN hi hx r (fun s' I' _ => h s' I') hf
/-- behind a call or a block, the state as it is -/
theorem Inv.call' {s' : Shared} {ch : List Addr} (I : Inv X pins σ H s) (ho : s'.os = s.os) (u : Un (frs X.stack) ch H H' s.heap s'.heap) (hok : HOk X.prog X.w H' s'.heap) (hg : AllBare s'.gens)
    (hch : ∀ b ∈ ch, (b ∈ X.ex ∨ X.s₀.heap.objs.size ≤ b) ∧ b ≠ X.env.locals ∧ (∀ x c, X.env.cells.lookup x = some c → c ≠ b) ∧ ∀ p ∈ X.pn ++ pins, p.1 ≠ b) : Inv X pins σ H' s' := by
  obtain ⟨h', g', d', t', o'⟩ := s'
  have e : o' = s.os := ho
  subst e
  exact I.call (g' := g') (t' := t') (d' := d') u hok hg hch
end

/-! ### the judgements -/
/-- an exception: its class, its own dict's address (where it has one), the abstract heap behind it -/
abbrev XK := Value → Option Addr → Hp → Prop
abbrev St := List (Option V)
abbrev VK := V → Hp → Prop
/-- an expression's reading; a test's; an argument list's -/
abbrev TE := St → Hp → VK → Prop
abbrev TT := St → Hp → (Bool → Hp → Prop) → Prop
abbrev TA := St → Hp → (List V → Hp → Prop) → Prop
/-- what is wanted behind a statement -/
structure Ends where
  nx : St → Hp → Prop
  rt : VK
  bk : St → Hp → Prop := fun _ _ => False
  ct : St → Hp → Prop := fun _ _ => False
abbrev TS := Ends → St → Hp → Prop

def EP (X : Cx) (pins : List (Addr × Obj)) (σ : St) (Q : VK) (u : Value) (s' : Shared) : Prop := ∃ v H', Inv X pins σ H' s' ∧ RelV v u ∧ Q v H'
def TP (X : Cx) (pins : List (Addr × Obj)) (σ : St) (Q : Bool → Hp → Prop) (b : Bool) (s' : Shared) : Prop := ∃ H', Inv X pins σ H' s' ∧ Q b H'
def AP (X : Cx) (pins : List (Addr × Obj)) (σ : St) (Q : List V → Hp → Prop) (us : List Value) (s' : Shared) : Prop := ∃ vs H', Inv X pins σ H' s' ∧ Vals vs us ∧ Q vs H'
def SP (X : Cx) (pins : List (Addr × Obj)) (D : Ends) (f : Flow) (s' : Shared) : Prop :=
  match f with
  | .next => ∃ σ' H', Inv X pins σ' H' s' ∧ D.nx σ' H'
  | .brk => ∃ σ' H', Inv X pins σ' H' s' ∧ D.bk σ' H'
  | .cont => ∃ σ' H', Inv X pins σ' H' s' ∧ D.ct σ' H'
  | .ret u => ∃ v σ' H', Inv X pins σ' H' s' ∧ RelV v u ∧ D.rt v H'

def PE (X : Cx) (e : Expr) (t : TE) : Prop :=
  ∀ (pins : List (Addr × Obj)) (s : Shared) (σ : St) (H : Hp) (Q : VK), Inv X pins σ H s → t σ H Q → wpAny (model X.prog X.w) X.A (eval e X.env) (EP X pins σ Q) X.xe s
def PT (X : Cx) (e : Expr) (t : TT) : Prop :=
  ∀ (pins : List (Addr × Obj)) (s : Shared) (σ : St) (H : Hp) (Q : Bool → Hp → Prop), Inv X pins σ H s → t σ H Q → wpAny (model X.prog X.w) X.A (isTrue e X.env (eval e X.env)) (TP X pins σ Q) X.xe s
/-- a test whatever its 'whole' is (and, or) -/
def PW (X : Cx) (e : Expr) (t : TT) : Prop :=
  ∀ (whole : Sem Value) (pins : List (Addr × Obj)) (s : Shared) (σ : St) (H : Hp) (Q : Bool → Hp → Prop), Inv X pins σ H s → t σ H Q → wpAny (model X.prog X.w) X.A (isTrue e X.env whole) (TP X pins σ Q) X.xe s
theorem PW.pt {X : Cx} {e : Expr} {t : TT} (h : PW X e t) : PT X e t := h _
/-- an argument list (no star), from the left -/
def PA (X : Cx) (es : List Expr) (t : TA) : Prop :=
  ∀ (pos : Pos) (pins : List (Addr × Obj)) (s : Shared) (σ : St) (H : Hp) (Q : List V → Hp → Prop), Inv X pins σ H s → t σ H Q → wpAny (model X.prog X.w) X.A (spliced (backTo pos (starEach es X.env))) (AP X pins σ Q) X.xe s
def PS (X : Cx) (st : Stmt) (t : TS) : Prop :=
  ∀ (pins : List (Addr × Obj)) (s : Shared) (σ : St) (H : Hp) (D : Ends), Inv X pins σ H s → t D σ H → wpAny (model X.prog X.w) X.A (exec st X.env) (SP X pins D) X.xe s
def PSs (X : Cx) (st : List Stmt) (t : TS) : Prop :=
  ∀ (pins : List (Addr × Obj)) (s : Shared) (σ : St) (H : Hp) (D : Ends), Inv X pins σ H s → t D σ H → wpAny (model X.prog X.w) X.A (execs st X.env) (SP X pins D) X.xe s
/-- weaken the end -/
theorem thn {α : Type} {t : Sem α} {Q Q' : α → Shared → Prop} {M : Model} {A : Around} {E : Value → Shared → Prop} {s : Shared} (h : wpAny M A t Q E s) (hQ : ∀ a s, Q a s → Q' a s) : wpAny M A t Q' E s := wpAny_mono h hQ fun _ _ x => x
end L2

namespace L2
open PySem PySem.Spec PyProof.Rows
section
variable {X : Cx}

/-- two expressions in a row -/
theorem bin {a b : Expr} {ta tb : TE} (ha : PE X a ta) (hb : PE X b tb) {pins : List (Addr × Obj)} {s : Shared} {σ : St} {H : Hp} {R : V → V → Hp → Prop} (I : Inv X pins σ H s) (h : ta σ H fun x H1 => tb σ H1 fun y H2 => R x y H2)
    {α : Type} {Q : α → Shared → Prop} {f : Value → Value → Sem α}
    (hf : ∀ v u s2 x y H2, Inv X pins σ H2 s2 → RelV x v → RelV y u → R x y H2 → wpAny (model X.prog X.w) X.A (f v u) Q X.xe s2) :
    wpAny (model X.prog X.w) X.A (eval a X.env) (fun v s₁ => wpAny (model X.prog X.w) X.A (eval b X.env) (fun u s₂ => wpAny (model X.prog X.w) X.A (f v u) Q X.xe s₂) X.xe s₁) X.xe s := by
  refine thn (ha pins s σ H _ I h) fun v s1 ⟨x, H1, I1, r1, q1⟩ => ?_
  refine thn (hb pins s1 σ H1 _ I1 q1) fun u s2 ⟨y, H2, I2, r2, q2⟩ => ?_
  exact hf v u s2 x y H2 I2 r1 r2 q2

/-! ### names and constants -/
def tVar (i : Nat) : TE := fun σ H Q => ∃ v, σ[i]? = some (some v) ∧ Q v H
def tC (v : V) : TE := fun _ H Q => Q v H
theorem pe_var {i : Nat} {x : Str} {pos : Pos} (hN : X.N[i]? = some x) (hv : Vis X.env.scope x) (hd : (x == ("__debug__" : Str)) = false := by decide) (hcd : (x == ("__classdict__" : Str)) = false := by decide) : PE X (.Name x pos) (tVar i) := by
  intro pins s σ H Q I h
  obtain ⟨v, e, h⟩ := h
  obtain ⟨m, hn, hl⟩ := I.loc
  obtain ⟨u, r, l⟩ := hl i x v hN e hv
  have fin : EP X pins σ Q u s := ⟨v, H, I, r, h⟩
  rcases l with ⟨hk, hm⟩ | ⟨hk, c, hc, hcell⟩
  · exact wpAny_Name (wpAny_loadName_local I.ok.kind hk hn hm fin) hd
  · rcases hk with hk | hk
    · exact wpAny_Name (wpAny_loadName_cell I.ok.kind hk hc hcell fin) hd
    · exact wpAny_Name (wpAny_loadName_free I.ok.kind hk hc hcell fin hcd) hd
theorem pe_int {i j pos} : PE X (.Constant (.int i) j pos) (tC (.int i)) := fun _ _ _ H _ I h => wpAny_Constant_int ⟨.int i, H, I.tok _, ⟨_, rfl⟩, h⟩
theorem pe_bl {b j pos} : PE X (.Constant (.bool b) j pos) (tC (.bl b)) := fun _ _ _ H _ I h => Constant_bool ⟨.bl b, H, I, rfl, h⟩
theorem pe_non {j pos} : PE X (.Constant .none j pos) (tC .non) := fun _ _ _ H _ I h => Constant_none ⟨.non, H, I, rfl, h⟩
theorem pe_str {x j pos} : PE X (.Constant (.str x) j pos) (tC (.str x)) := fun _ _ _ H _ I h => Calls.Constant_str ⟨.str x, H, I.tok _, ⟨_, rfl⟩, h⟩

/-- a global name of the def -/
def Gl (X : Cx) (x : Str) : Prop := X.env.kindOf x = some .globalImplicit
theorem ld_glob {E : Value → Shared → Prop} {pins : List (Addr × Obj)} {s : Shared} {σ : St} {H : Hp} {x : Str} {u : Value} {pos : Pos} {Q : Value → Shared → Prop} (I : Inv X pins σ H s) (hg : Gl X x) (hm : X.mg x = some u) (h : Q u s)
    (hd : (x == ("__debug__" : Str)) = false := by decide) : wpAny (model X.prog X.w) X.A (eval (.Name x pos) X.env) Q E s :=
  Calls.Name_function_global I.ok.kind hg (Calls.loadGlobal_global (by rw [I.ok.glob]; exact I.mod.glob.keeps I.bk) hm h) hd
theorem ld_blt {E : Value → Shared → Prop} {pins : List (Addr × Obj)} {s : Shared} {σ : St} {H : Hp} {x : Str} {u : Value} {pos : Pos} {Q : Value → Shared → Prop} (I : Inv X pins σ H s) (hg : Gl X x) (hm : X.mg x = none) (hv : bootBuiltins x = some u) (h : Q u s)
    (hn : x ≠ "__name__" := by decide) (hd : (x == ("__debug__" : Str)) = false := by decide) : wpAny (model X.prog X.w) X.A (eval (.Name x pos) X.env) Q E s := by
  obtain ⟨mb, h1, h2⟩ := I.mod.blt
  exact Calls.Name_function_global I.ok.kind hg (Calls.loadGlobal_builtin (by rw [I.ok.glob]; exact I.mod.glob.keeps I.bk) hm (by rw [I.ok.blt]; exact h1.keeps I.bk) ((h2 x hn).trans hv) h) hd
/-- a module's constant, a class, a function, as a value -/
theorem pe_glob {x : Str} {v : V} {u : Value} {pos : Pos} (hg : Gl X x) (hm : X.mg x = some u) (r : RelV v u) (hd : (x == ("__debug__" : Str)) = false := by decide) : PE X (.Name x pos) (tC v) :=
  fun _ _ _ H _ I h => ld_glob I hg hm ⟨v, H, I, r, h⟩ hd
theorem pe_bltn {x : Str} {v : V} {u : Value} {pos : Pos} (hg : Gl X x) (hm : X.mg x = none) (hv : bootBuiltins x = some u) (r : RelV v u) (hn : x ≠ "__name__" := by decide) (hd : (x == ("__debug__" : Str)) = false := by decide) : PE X (.Name x pos) (tC v) :=
  fun _ _ _ H _ I h => ld_blt I hg hm hv ⟨v, H, I, r, h⟩ hn hd

/-! ### arithmetic -/
variable {a b : Expr} {ta tb : TE} {pos : Pos}
/-! ### comparisons -/
def PC (X : Cx) (op : CmpOp) (a b : Expr) (t : TE) : Prop :=
  ∀ (pins : List (Addr × Obj)) (s : Shared) (σ : St) (H : Hp) (Q : VK), Inv X pins σ H s → t σ H Q →
    wpAny (model X.prog X.w) X.A (eval a X.env) (fun v s₁ => wpAny (model X.prog X.w) X.A (eval b X.env) (fun u s₂ => wpAny (model X.prog X.w) X.A (compareOp op v u) (EP X pins σ Q) X.xe s₂) X.xe s₁) X.xe s
theorem nobehind (b : Expr) {op : CmpOp} (h : op ≠ .In) (h2 : op ≠ .NotIn) : behindInMarks op b = false := by
  have e1 : (op == CmpOp.In) = false := by cases op <;> first | rfl | exact absurd rfl h
  have e2 : (op == CmpOp.NotIn) = false := by cases op <;> first | rfl | exact absurd rfl h2
  cases b <;> simp [behindInMarks, e1, e2]
def tNotN (ta : TE) : TE := fun σ H Q => ta σ H fun x H1 => Q (.bl (!decide (x = .non))) H1
theorem RelV.none_iff {x : V} {v : Value} (r : RelV x v) : (v == Value.none) = decide (x = .non) := by
  cases x with
  | non => cases r; rfl
  | bl _ => cases r; rfl
  | int _ => obtain ⟨t, rfl⟩ := r; rfl
  | str _ => obtain ⟨t, rfl⟩ := r; rfl
  | byt _ => obtain ⟨t, rfl⟩ := r; rfl
  | flt _ => obtain ⟨t, rfl⟩ := r; rfl
  | ref _ => cases r; rfl
  | ty _ => cases r; rfl
theorem pc_notN {j pos'} (ha : PE X a ta) : PC X .IsNot a (.Constant .none j pos') (tNotN ta) := by
  intro pins s σ H Q I h
  refine thn (ha pins s σ H _ I h) fun v s1 ⟨x, H1, I1, r1, q1⟩ => ?_
  exact Constant_none (isnot_none_gen ⟨.bl _, H1, I1, by rw [r1.none_iff]; rfl, q1⟩)
/-- a comparison as a value, as a test -/
def tB (t : TE) : TT := fun σ H Q => t σ H fun x H1 => ∃ c, x = .bl c ∧ Q c H1
theorem pt_cmp {op : CmpOp} {t : TE} (h : PC X op a b t) (h1 : behindInMarks op b = false := by first | exact nobehind _ (by decide) (by decide) | rfl) : PT X (.Compare a [op] [b] pos) (tB t) := by
  intro pins s σ H Q I hw
  refine wpAny_isTrue_Compare1 (thn (h pins s σ H _ I hw) fun v s1 h1 => thn h1 fun u s2 h2 => thn h2 fun c s3 ⟨x, H1, I1, r1, q1⟩ => ?_) h1
  obtain ⟨d, rfl, q⟩ := q1
  cases r1
  exact wpAny_truthy_bool ⟨H1, I1, q⟩
/-- an expression whose value is a bool, as a test -/
theorem pt_val {e : Expr} {t : TE} (h : PE X e t) (he : ∀ whole, isTrue e X.env whole = (do let v ← whole; standAt e.pos; holding [v] (truthy v)) := by intro _; rfl) : PT X e (tB t) := by
  intro pins s σ H Q I hw
  refine isTrue_plain (thn (h pins s σ H _ I hw) fun v s1 ⟨x, H1, I1, r1, q1⟩ => ?_) (he _)
  obtain ⟨d, rfl, q⟩ := q1
  cases r1
  exact wpAny_truthy_bool ⟨H1, I1, q⟩

/-! ### and, or, not -/
variable {tA tB' : TT} {rest : List Expr}
def tAnd (t u : TT) : TT := fun σ H Q => t σ H fun c H1 => if c = true then u σ H1 Q else Q false H1
def tOr (t u : TT) : TT := fun σ H Q => t σ H fun c H1 => if c = true then Q true H1 else u σ H1 Q
def tNot (t : TT) : TT := fun σ H Q => t σ H fun c H1 => Q (!c) H1
theorem pw_and1 (ha : PT X a tA) : PW X (.BoolOp .And [a] pos) tA := by
  intro wh pins s σ H Q I h
  refine isTrue_and (thn (ha pins s σ H Q I h) fun c s1 e => ?_)
  cases c with
  | true => exact isTrue_and_nil e
  | false => exact e
theorem pw_or1 (ha : PT X a tA) : PW X (.BoolOp .Or [a] pos) tA := by
  intro wh pins s σ H Q I h
  refine isTrue_or (thn (ha pins s σ H Q I h) fun c s1 e => ?_)
  cases c with
  | false => exact isTrue_or_nil e
  | true => exact e
theorem pw_and (ha : PT X a tA) (hb : PW X (.BoolOp .And (b :: rest) pos) tB') : PW X (.BoolOp .And (a :: b :: rest) pos) (tAnd tA tB') := by
  intro wh pins s σ H Q I h
  refine isTrue_and (thn (ha pins s σ H _ I h) fun c s1 ⟨H1, I1, q1⟩ => ?_)
  cases c with
  | true => exact hb wh pins s1 σ H1 Q I1 q1
  | false => exact ⟨H1, I1, q1⟩
theorem pw_or (ha : PT X a tA) (hb : PW X (.BoolOp .Or (b :: rest) pos) tB') : PW X (.BoolOp .Or (a :: b :: rest) pos) (tOr tA tB') := by
  intro wh pins s σ H Q I h
  refine isTrue_or (thn (ha pins s σ H _ I h) fun c s1 ⟨H1, I1, q1⟩ => ?_)
  cases c with
  | true => exact ⟨H1, I1, q1⟩
  | false => exact hb wh pins s1 σ H1 Q I1 q1
theorem pt_not (ha : PT X a tA) : PT X (.UnaryOp .Not a pos) (tNot tA) := by
  intro pins s σ H Q I h
  exact isTrue_not (ha pins s σ H (fun c H1 => Q (!c) H1) I h)
/-- .. as values (bools) -/
def tAndV (ta tb : TE) : TE := fun σ H Q => ta σ H fun x H1 => ∃ c, x = .bl c ∧ if c = true then tb σ H1 Q else Q (.bl false) H1
theorem pe_one {op} {t : TE} (h : PE X a t) : PE X (.BoolOp op [a] pos) t := fun pins s σ H Q I hw => BoolOp_one (h pins s σ H Q I hw)
theorem pe_and (ha : PE X a ta) (hb : PE X (.BoolOp .And (b :: rest) pos) tb) : PE X (.BoolOp .And (a :: b :: rest) pos) (tAndV ta tb) := by
  intro pins s σ H Q I h
  refine BoolOp_and (thn (ha pins s σ H _ I h) fun v s1 ⟨x, H1, I1, r1, q1⟩ => ?_)
  obtain ⟨c, rfl, q1⟩ := q1
  cases r1
  refine wpAny_truthy_bool ?_
  cases c with
  | true => exact hb pins s1 σ H1 Q I1 q1
  | false => exact ⟨.bl false, H1, I1, rfl, q1⟩
end
end L2

namespace L2
open PySem PySem.Spec PyProof.Rows

/-! ### a list, a tuple that is read: tracked, frozen, or an object of the module -/
def SqL (K : PySem.W.Frag) (H : Hp) (a : Addr) (xs : List V) : Prop :=
  Rd H a (.lst xs) ∨
    ∃ (o : Obj) (its : Array Value) (n : Nat), K.lookup a = some o ∧ o.cls = .type "list" ∧ o.dict = none ∧ o.data = .seq its n ∧ its.size ≤ sizeLine ∧ Vals xs its.toList
def SqT (K : PySem.W.Frag) (H : Hp) (a : Addr) (xs : List V) : Prop :=
  Rd H a (.tup xs) ∨
    ∃ (o : Obj) (its : Array Value) (n : Nat), K.lookup a = some o ∧ o.cls = .type "tuple" ∧ o.data = .seq its n ∧ its.size ≤ sizeLine ∧ Vals xs its.toList
def absV : Value → Option V
  | .none => some .non
  | .bool b => some (.bl b)
  | .int i _ => some (.int i)
  | .str x _ => some (.str x)
  | .bytes b _ => some (.byt b)
  | .float b _ => some (.flt b)
  | .ref a => some (.ref a)
  | .type n => some (.ty n)
  | _ => none
theorem RelV.abs {x : V} {u : Value} (r : RelV x u) : absV u = some x := by
  cases x with
  | non => cases r; rfl
  | bl _ => cases r; rfl
  | int _ => obtain ⟨t, rfl⟩ := r; rfl
  | str _ => obtain ⟨t, rfl⟩ := r; rfl
  | byt _ => obtain ⟨t, rfl⟩ := r; rfl
  | flt _ => obtain ⟨t, rfl⟩ := r; rfl
  | ref _ => cases r; rfl
  | ty _ => cases r; rfl
theorem RelV.inj {x y : V} {u : Value} (r : RelV x u) (q : RelV y u) : x = y := Option.some.inj (r.abs.symm.trans q.abs)
theorem Vals.inj : ∀ {xs ys : List V} {us : List Value}, Vals xs us → Vals ys us → xs = ys
  | _, _, _, .nil, .nil => rfl
  | _, _, _, .cons r t, .cons r' t' => by rw [r.inj r', Vals.inj t t']
section
variable {X : Cx} {pins : List (Addr × Obj)} {σ : St} {H : Hp} {s : Shared} {a : Addr} {xs ys : List V}
theorem SqL.of {K : PySem.W.Frag} (h : H a = some (.lst xs)) : SqL K H a xs := .inl (.inl h)
theorem SqT.of {K : PySem.W.Frag} (h : H a = some (.tup xs)) : SqT K H a xs := .inl (.inl h)
theorem Inv.list (I : Inv X pins σ H s) (h : SqL X.K H a xs) : ∃ its : List Value, Vals xs its ∧ PlainL s.heap a its.toArray ∧ xs.length ≤ sizeLine := by
  rcases h with h | ⟨o, its, n, hk, hc, hd, hs, hz, r⟩
  · obtain ⟨z, its, n, r, e⟩ := h.ok I.hok
    exact ⟨its, r, ⟨_, n, e, rfl, rfl, rfl⟩, z⟩
  · refine ⟨its.toList, r, ⟨o, n, I.kIn a o hk, hc, hd, by simpa using hs⟩, ?_⟩
    have e := r.length
    simp only [Array.length_toList] at e
    omega
theorem Inv.tuple (I : Inv X pins σ H s) (h : SqT X.K H a xs) : ∃ its : List Value, Vals xs its ∧ IsTup s.heap a its.toArray ∧ xs.length ≤ sizeLine := by
  rcases h with h | ⟨o, its, n, hk, hc, hs, hz, r⟩
  · obtain ⟨z, its, r, p⟩ := h.ok I.hok
    exact ⟨its, r, p, z⟩
  · refine ⟨its.toList, r, ⟨o, I.kIn a o hk, hc, n, by simpa using hs⟩, ?_⟩
    have e := r.length
    simp only [Array.length_toList] at e
    omega
theorem Inv.list_inj (I : Inv X pins σ H s) (h : SqL X.K H a xs) (h' : SqL X.K H a ys) : xs = ys := by
  obtain ⟨its, r, ⟨o, n, e, _, _, d⟩, _⟩ := I.list h
  obtain ⟨its', r', ⟨o', n', e', _, _, d'⟩, _⟩ := I.list h'
  rw [e] at e'; cases e'
  rw [d] at d'
  injection d' with d1 _
  have : its = its' := by simpa using congrArg Array.toList d1
  subst this
  exact r.inj r'
end

/-! ### another wish about exceptions -/
abbrev Cx.wish (X : Cx) (E : Value → Shared → Prop) : Cx := { X with xe := E }
/-- no exception leaves -/
abbrev Cx.nox (X : Cx) : Cx := X.wish fun _ _ => False
theorem Cx.Ok.wish {X : Cx} (ok : X.Ok) (E : Value → Shared → Prop) : (X.wish E).Ok :=
  ⟨ok.mod, ok.kind, ok.glob, ok.blt, ok.above, ok.inj, ok.has, ok.cab, ok.hd, ok.frames, ok.stk, ok.exf, ok.bs, ok.bsz, ok.noex, ok.exfs, ok.funs, ok.frf⟩
theorem Cx.Ok.unwish {X : Cx} {E : Value → Shared → Prop} (ok : (X.wish E).Ok) : X.Ok :=
  ⟨ok.mod, ok.kind, ok.glob, ok.blt, ok.above, ok.inj, ok.has, ok.cab, ok.hd, ok.frames, ok.stk, ok.exf, ok.bs, ok.bsz, ok.noex, ok.exfs, ok.funs, ok.frf⟩
section
variable {X : Cx} {pins : List (Addr × Obj)} {σ : St} {H : Hp} {s : Shared} {E : Value → Shared → Prop}
theorem Inv.wish (I : Inv X pins σ H s) (E : Value → Shared → Prop) : Inv (X.wish E) pins σ H s := ⟨I.ok.wish E, I.os, I.bare, I.base, I.loc, I.cell, I.free, I.freeC, I.pin, I.hok, I.len⟩
theorem Inv.unwish (I : Inv (X.wish E) pins σ H s) : Inv X pins σ H s := ⟨I.ok.unwish, I.os, I.bare, I.base, I.loc, I.cell, I.free, I.freeC, I.pin, I.hok, I.len⟩
theorem SP.unwish {D : Ends} {f : Flow} {s' : Shared} (h : SP (X.wish E) pins D f s') : SP X pins D f s' := by
  cases f with
  | next => obtain ⟨σ', H', I, q⟩ := h; exact ⟨σ', H', I.unwish, q⟩
  | brk => obtain ⟨σ', H', I, q⟩ := h; exact ⟨σ', H', I.unwish, q⟩
  | cont => obtain ⟨σ', H', I, q⟩ := h; exact ⟨σ', H', I.unwish, q⟩
  | ret u => obtain ⟨v, σ', H', I, r, q⟩ := h; exact ⟨v, σ', H', I.unwish, r, q⟩
theorem PSs.nox {st : List Stmt} {t : TS} (h : PSs X.nox st t) : PSs X st t := fun pins s σ H D I hw =>
  wpAny_mono (h pins s σ H D (I.wish _) hw) (fun _ _ q => q.unwish) fun _ _ z => False.elim z
end

/-! ### blocks and small statements -/
section
variable {X : Cx} {st : Stmt} {rest : List Stmt} {t u : TS} {e : Expr} {te : TE} {pos : Pos}
def tNext : TS := fun D σ H => D.nx σ H
def tSeq (t u : TS) : TS := fun D σ H => t { D with nx := u D } σ H
theorem pss_nil : PSs X [] tNext := fun _ _ σ H _ I h => wpAny_execs_nil ⟨σ, H, I, h⟩
theorem pss_cons (h1 : PS X st t) (h2 : PSs X rest u) : PSs X (st :: rest) (tSeq t u) := by
  intro pins s σ H D I h
  refine wpAny_execs_cons (thn (h1 pins s σ H { D with nx := u D } I h) fun f s1 q => ?_)
  cases f with
  | next =>
    obtain ⟨σ', H', I', q⟩ := q
    exact h2 pins s1 σ' H' D I' q
  | ret v => exact q
  | brk => exact q
  | cont => exact q
theorem pss_one (h1 : PS X st t) : PSs X [st] t := by
  intro pins s σ H D I h
  refine wpAny_execs_cons (thn (h1 pins s σ H D I h) fun f s1 q => ?_)
  cases f with
  | next => exact wpAny_execs_nil q
  | ret v => exact q
  | brk => exact q
  | cont => exact q
/-- in a def's body nothing is shown -/
theorem Inv.quiet {pins : List (Addr × Obj)} {σ : St} {H : Hp} {s : Shared} (I : Inv X pins σ H s) : interactive X.env = false := by simp [interactive, I.ok.kind]
/-- an expression whose value is dropped -/
def tDrop (te : TE) : TS := fun D σ H => te σ H fun _ H1 => D.nx σ H1
theorem ps_expr (he : PE X e te) (hs : swapsWith e none pos.line X.env = pure false := by rfl) : PS X (.Expr e pos) (tDrop te) := by
  intro pins s σ H D I h
  exact wpAny_Expr_any (thn (he pins s σ H _ I h) fun v s1 ⟨x, H1, I1, r1, q1⟩ => ⟨σ, H1, I1, q1⟩) I.quiet hs
def tRet (te : TE) : TS := fun D σ H => te σ H D.rt
theorem ps_ret (he : PE X e te) : PS X (.Return (some e) pos) (tRet te) := by
  intro pins s σ H D I h
  exact wpAny_Return_some (thn (he pins s σ H _ I h) fun v s1 ⟨x, H1, I1, r1, q1⟩ => ⟨x, σ, H1, I1, r1, q1⟩)
def tIfS (c : TT) (t u : TS) : TS := fun D σ H => c σ H fun b H1 => if b = true then t D σ H1 else u D σ H1
theorem ps_if {c : Expr} {a b : List Stmt} {tc : TT} (hc : PT X c tc) (ha : PSs X a t) (hb : PSs X b u) : PS X (.If c a b pos) (tIfS tc t u) := by
  intro pins s σ H D I h
  refine wpAny_If (thn (hc pins s σ H _ I h) fun d s1 ⟨H1, I1, q1⟩ => ?_)
  cases d with
  | true => exact ha pins s1 σ H1 D I1 q1
  | false => exact hb pins s1 σ H1 D I1 q1
/-- code that the proof never comes to -/
def tNever : TS := fun _ _ _ => False
theorem ps_never : PS X st tNever := fun _ _ _ _ _ _ h => h.elim
end

/-! ### targets -/
abbrev TG := V → St → Hp → (St → Hp → Prop) → Prop
abbrev TGs := List V → St → Hp → (St → Hp → Prop) → Prop
def PG (X : Cx) (target : Expr) (t : TG) : Prop :=
  ∀ (pins : List (Addr × Obj)) (s : Shared) (σ : St) (H : Hp) (v : V) (u : Value) (Q : St → Hp → Prop), Inv X pins σ H s → RelV v u → t v σ H Q →
    wpAny (model X.prog X.w) X.A (assign target X.env u) (fun _ s' => ∃ σ' H', Inv X pins σ' H' s' ∧ Q σ' H') X.xe s
/-- several targets, one after another -/
def PGs (X : Cx) (ts : List Expr) (t : TGs) : Prop :=
  ∀ (pins : List (Addr × Obj)) (s : Shared) (σ : St) (H : Hp) (vs : List V) (us : List Value) (Q : St → Hp → Prop), Inv X pins σ H s → Vals vs us → t vs σ H Q →
    wpAny (model X.prog X.w) X.A (assignInOrder ((assignEach ts X.env).map (·.2)) us) (fun _ s' => ∃ σ' H', Inv X pins σ' H' s' ∧ Q σ' H') X.xe s
/-- o[i] = v, by values -/
abbrev TSet := V → V → V → Hp → (Hp → Prop) → Prop
def PSet (X : Cx) (t : TSet) : Prop :=
  ∀ (pins : List (Addr × Obj)) (s : Shared) (σ : St) (H : Hp) (o i v : V) (ov iv u : Value) (Q : Hp → Prop), Inv X pins σ H s → RelV o ov → RelV i iv → RelV v u → t o i v H Q →
    wpAny (model X.prog X.w) X.A (setItem ov iv u) (fun _ s' => ∃ H', Inv X pins σ H' s' ∧ Q H') X.xe s
section
variable {X : Cx} {pos : Pos}
def gName (i : Nat) : TG := fun v σ H Q => Q (σ.set i (some v)) H
theorem pg_name {i : Nat} {x : Str} (hN : X.N.Nodup) (hi : X.N[i]? = some x) (hx : Loc X.env.scope x) (hf : X.fn x = true ∨ X.env.scope.names.lookup x = some .local := by first | exact .inl rfl | exact .inr rfl | assumption) : PG X (.Name x pos) (gName i) := by
  intro pins s σ H v u Q I r h
  exact wpAny_assign_Name (store_ok I hN hi hx r (fun s' I' => ⟨_, H, I', h⟩) hf)
def gNil : TGs := fun vs σ H Q => vs = [] ∧ Q σ H
def gCons (t : TG) (u : TGs) : TGs := fun vs σ H Q => ∃ v r, vs = v :: r ∧ t v σ H fun σ' H' => u r σ' H' Q
theorem pgs_nil : PGs X [] gNil := by
  intro pins s σ H vs us Q I r h
  obtain ⟨e, h⟩ := h
  subst e
  cases r
  exact assignInOrder_nil ⟨σ, H, I, h⟩
theorem pgs_cons {e : Expr} {es : List Expr} {t : TG} {u : TGs} (h1 : PG X e t) (h2 : PGs X es u)
    (hs : (assignEach (e :: es) X.env).map (·.2) = assign e X.env :: (assignEach es X.env).map (·.2) := by rfl) : PGs X (e :: es) (gCons t u) := by
  intro pins s σ H vs us Q I r h
  obtain ⟨v, vr, e1, h⟩ := h
  subst e1
  cases r with
  | cons r rr =>
    rw [hs]
    refine assignInOrder_cons (thn (h1 pins s σ H _ _ _ I r h) fun _ s1 ⟨σ1, H1, I1, q1⟩ => ?_)
    exact h2 pins s1 σ1 H1 _ _ Q I1 rr q1
/-- (a, b, ..) = a tuple of that length -/
def gTup (K : PySem.W.Frag) (n : Nat) (t : TGs) : TG := fun v σ H Q => ∃ a xs, v = .ref a ∧ SqT K H a xs ∧ xs.length = n ∧ t xs σ H Q
theorem pg_tup {es : List Expr} {k : Nat} {t : TGs} {n : Nat} (hc : X.calm = true) (h : PGs X es t)
    (hn : (assignEach es X.env).length = n := by rfl) (hst : (assignEach es X.env).findIdx? (·.1) = none := by rfl) : PG X (.Tuple es k pos) (gTup X.K n t) := by
  intro pins s σ H v u Q I r hw
  obtain ⟨a, xs, e1, hq, hl, hw⟩ := hw
  subst e1
  cases r
  obtain ⟨its, rv, ht, hz⟩ := I.tuple hq
  refine assign_Tuple_tuple (I.ok.hd hc) ht (by simp [hn, ← hl, rv.length]) hst fun h' hx => ?_
  have I1 : Inv X pins σ H { s with heap := h' } := I.kept (t' := s.toks) fun b o e => hx b o (Nat.ne_of_lt (Heap.lt_size e)) e
  exact h pins _ σ H xs _ Q I1 (by simpa using rv) hw
/-- o[i] = .. -/
def gSub (to ti : TE) (t : TSet) : TG := fun v σ H Q => to σ H fun o H1 => ti σ H1 fun i H2 => t o i v H2 fun H3 => Q σ H3
theorem pg_sub {o i : Expr} {to ti : TE} {t : TSet} (ho : PE X o to) (hi : PE X i ti) (hs : PSet X t)
    (ha : ∀ v, assign (.Subscript o i pos) X.env v = (do
      let ov ← holding [v] (eval o X.env)
      let iv ← holding [v, ov] (eval i X.env)
      standAt pos
      holding [v, ov, iv] (setItem ov iv v)
      release [v, ov, iv] []) := by intro _; rfl) : PG X (.Subscript o i pos) (gSub to ti t) := by
  intro pins s σ H v u Q I r h
  rw [ha]
  refine wpAny_bind (wpAny_holding (thn (ho pins s σ H _ I h) fun ov s1 ⟨x, H1, I1, r1, q1⟩ => ?_))
  refine wpAny_bind (wpAny_holding (thn (hi pins s1 σ H1 _ I1 q1) fun iv s2 ⟨y, H2, I2, r2, q2⟩ => ?_))
  refine wpAny_bind (wpAny_standAt (wpAny_bind (wpAny_holding (thn (hs pins s2 σ H2 x y v ov iv u _ I2 r1 r2 r q2) fun _ s3 ⟨H3, I3, q3⟩ => ?_))))
  exact wpAny_release ⟨σ, H3, I3, q3⟩
/-- target = value -/
def tAsg (te : TE) (g : TG) : TS := fun D σ H => te σ H fun x H1 => g x σ H1 D.nx
theorem ps_asg {tg e : Expr} {te : TE} {g : TG} (he : PE X e te) (hg : PG X tg g) (hs : swapsWithSole [tg] e pos.line X.env = pure false := by rfl) (hw : swappedStores [tg] e X.env = pure none := by rfl)
    (h1 : (assignEach [tg] X.env).map (·.2) = [assign tg X.env] := by rfl) : PS X (.Assign [tg] e pos) (tAsg te g) := by
  intro pins s σ H D I h
  refine wpAny_Assign_stores (thn (he pins s σ H _ I h) fun v s1 ⟨x, H1, I1, r1, q1⟩ => ?_) hs hw
  rw [h1]
  exact thn (hg pins s1 σ H1 x v _ I1 r1 q1) fun _ s2 q => q
/-- name = value -/
theorem ps_set {i : Nat} {x : Str} {e : Expr} {te : TE} {pos' : Pos} (hN : X.N.Nodup) (hi : X.N[i]? = some x) (hx : Loc X.env.scope x) (he : PE X e te) (hs : swapsWith e (some (.Name x pos')) pos.line X.env = pure false := by rfl) (hf : X.fn x = true ∨ X.env.scope.names.lookup x = some .local := by first | exact .inl rfl | exact .inr rfl | assumption) :
    PS X (.Assign [.Name x pos'] e pos) (tAsg te (gName i)) := by
  intro pins s σ H D I h
  refine wpAny_Assign_Name (thn (he pins s σ H _ I h) fun v s1 ⟨y, H1, I1, r1, q1⟩ => ?_) hs
  exact store_ok I1 hN hi hx r1 (fun s2 I2 => ⟨_, H1, I2, q1⟩) hf
end

/-! ### while -/
section
variable {X : Cx} {pos : Pos}
end

/-! ### what a loop or a comprehension walks -/
/-- at turn i: it yields x (the heap may grow), or it stops -/
structure It where
  go : Nat → Hp → Prop
  yld : Nat → Hp → V → Hp → Prop
  stop : Nat → Hp → Prop
/-- the iterator's own objects may turn: they are not the frame's, not pinned, younger than the entry (or a comprehension's own) -/
def FpOk (X : Cx) (pins : List (Addr × Obj)) (H : Hp) (b : Addr) : Prop :=
  H b = none ∧ b ≠ X.env.locals ∧ b ∉ X.fs ∧ (b ∈ X.ex ∨ X.s₀.heap.objs.size ≤ b) ∧ (∀ x c, X.env.cells.lookup x = some c → c ≠ b) ∧ ∀ p ∈ X.pn ++ pins, p.1 ≠ b
theorem Inv.fpOk {X : Cx} {pins : List (Addr × Obj)} {σ : St} {H H' : Hp} {s : Shared} {b : Addr} (I : Inv X pins σ H s) (hb : s.heap.objs.size ≤ b) (hn : H' b = none) : FpOk X pins H' b := by
  refine ⟨hn, Nat.ne_of_gt (Nat.lt_of_lt_of_le I.lt hb), I.nofs hb, .inr (Nat.le_trans I.sz hb), fun x c e z => ?_, fun p hp z => ?_⟩
  · obtain ⟨v, q⟩ := I.cell x c e
    exact absurd (Nat.lt_of_lt_of_le q.lt (by rw [z]; exact hb)) (Nat.lt_irrefl _)
  · exact absurd (Nat.lt_of_lt_of_le (Heap.lt_size (I.pin p hp).1) (by rw [z]; exact hb)) (Nat.lt_irrefl _)
structure Turn (P : Program) (w : World) (K : PySem.W.Frag) (tg : Expr) (J : It) (fp : List Addr) (it : Addr) (tn : Nat → Heap → Prop) : Prop where
  mem : it ∈ fp
  obj : ∀ i h, tn i h → ∀ b ∈ fp, ∃ o, h.get? b = some o ∧ ∀ v, o.data ≠ .cell v
  keep : ∀ i h h', tn i h → (∀ b ∈ fp, ∀ o, h.get? b = some o → h'.get? b = some o) → tn i h'
  item : ∀ (X : Cx), X.prog = P → X.w = w → X.K = K → X.calm = true → ∀ (i : Nat) (pins : List (Addr × Obj)) (s : Shared) (σ : St) (H : Hp) (E : Value → Shared → Prop), Inv X pins σ H s → (∀ b ∈ fp, FpOk X pins H b) → tn i s.heap → J.go i H →
    wpAny (model P w) X.A (pyNext (.ref it)) (fun r s1 => ∃ u, r = some u ∧
      wpAny (model P w) X.A (letOwnedTupleGo tg (.ref it) u) (fun _ s2 => ∃ x H', Inv X pins σ H' s2 ∧ RelV x u ∧ J.yld i H x H' ∧ tn (i + 1) s2.heap ∧ ∀ b ∈ fp, H' b = none) E s1) E s
  done : ∀ (X : Cx), X.prog = P → X.w = w → X.K = K → X.calm = true → ∀ (i : Nat) (pins : List (Addr × Obj)) (s : Shared) (σ : St) (H : Hp) (E : Value → Shared → Prop), Inv X pins σ H s → (∀ b ∈ fp, FpOk X pins H b) → tn i s.heap → J.stop i H →
    wpAny (model P w) X.A (pyNext (.ref it)) (fun r s1 => r = none ∧ Inv X pins σ H s1) E s
  self : ∀ (A : Around) (i : Nat) (s : Shared) (Q : Value → Shared → Prop) (E : Value → Shared → Prop), tn i s.heap → Q (.ref it) s → wpAny (model P w) A (pyIter (.ref it)) Q E s
abbrev TI := St → Hp → (It → Hp → Prop) → Prop
/-- an iterator has come -/
def PIE (X : Cx) (pins : List (Addr × Obj)) (σ : St) (tg : Expr) (R : It → Hp → Prop) (itv : Value) (s2 : Shared) : Prop :=
  ∃ (it : Addr) (fp : List Addr) (tn : Nat → Heap → Prop) (J : It) (H' : Hp), itv = .ref it ∧ Inv X pins σ H' s2 ∧ Turn X.prog X.w X.K tg J fp it tn ∧ tn 0 s2.heap ∧ (∀ b ∈ fp, FpOk X pins H' b) ∧ R J H'
def PI (X : Cx) (tg iter : Expr) (wi : TI) : Prop :=
  ∀ (pins : List (Addr × Obj)) (s : Shared) (σ : St) (H : Hp) (R : It → Hp → Prop), Inv X pins σ H s → wi σ H R →
    wpAny (model X.prog X.w) X.A (eval iter X.env) (fun v s1 => wpAny (model X.prog X.w) X.A (pyIter v) (PIE X pins σ tg R) X.xe s1) X.xe s

/-- the step ahead of the store is nothing for an iterator that keeps no tuple -/
theorem go_of {M : Model} {A : Around} {E : Value → Shared → Prop} {s : Shared} {tg : Expr} {it : Addr} {u : Value} {o : Obj} {n : String} {vs : Array Value} {Q : Unit → Shared → Prop} (ho : s.heap.get? it = some o) (hc : o.cls = .type n) (hd : o.data = .fields vs)
    (hn : ["enumerate", "zip", "dict_itemiterator", "dict_reverseitemiterator", "odict_iterator", "itertools.zip_longest", "itertools.pairwise"].contains n = false) (hQ : Q () s) : wpAny M A (letOwnedTupleGo tg (.ref it) u) Q E s := by
  unfold letOwnedTupleGo
  cases tg <;> first
    | exact wpAny_pure hQ
    | (cases u <;> first
        | exact wpAny_pure hQ
        | (refine wpAny_bind (wpAny_load ho ?_)
           rw [hc, hd]
           show wpAny M A (if (["enumerate", "zip", "dict_itemiterator", "dict_reverseitemiterator", "odict_iterator", "itertools.zip_longest", "itertools.pairwise"].contains n && vs[0]? == some (rawInt _)) = true then _ else _) Q E s
           rw [if_neg (by intro h; rw [hn, Bool.false_and] at h; cases h)]
           exact wpAny_pure hQ))

/-- the list at a, as it stands at each turn (a loop may append to it) -/
def Itl (K : PySem.W.Frag) (a : Addr) : It :=
  ⟨fun i H => ∃ xs x, SqL K H a xs ∧ xs[i]? = some x, fun i H x H' => H' = H ∧ ∀ xs, SqL K H a xs → xs[i]? = some x, fun i H => ∃ xs, SqL K H a xs ∧ xs.length ≤ i⟩
/-- lo, lo + 1, .. (n of them) -/
def Itr (lo : Int) (n : Nat) : It := ⟨fun i _ => i < n, fun i H x H' => H' = H ∧ x = .int (lo + i), fun i _ => n ≤ i⟩
theorem turn_list {P : Program} {w : World} {K : PySem.W.Frag} {tg : Expr} (a it : Addr) : Turn P w K tg (Itl K a) [it] it (fun i h => h.IsListIter it a i) where
  mem := by simp
  obj := fun i h st b hb => by
    have e : b = it := by simpa using hb
    subst e
    obtain ⟨o, e, c, d⟩ := st
    exact ⟨o, e, fun v z => by rw [d] at z; cases z⟩
  keep := fun i h h' st k => st.at fun o e => k it (by simp) o e
  item := by
    intro X hP hw hK hc i pins s σ H E I hf st hg
    subst hP hw hK
    obtain ⟨xs, x, hq, hx⟩ := hg
    obtain ⟨its, rv, p, hz⟩ := I.list hq
    obtain ⟨u, hu, ru⟩ := rv.get hx
    obtain ⟨f0, f1, f2, f3, f4, f5⟩ := hf it (by simp)
    refine wpAny_pyNext_list_item st p.isList (x := u) (by simpa using hu) fun h' st' sb => ?_
    have I1 : Inv X pins σ H { s with heap := h' } := I.turned (t' := s.toks) (fun b o hb e => (sb.2 b hb).trans e) f0 f1 f3 f4 f5
    obtain ⟨o, e, c, d⟩ := id st'
    exact ⟨u, rfl, go_of (s := { s with heap := h' }) e c d (by decide) ⟨x, H, I1, ru, ⟨rfl, fun ys hy => by rw [I.list_inj hy hq]; exact hx⟩, st', fun b hb => (hf b hb).1⟩⟩
  done := by
    intro X hP hw hK hc i pins s σ H E I hf st hg
    subst hP hw hK
    obtain ⟨xs, hq, hx⟩ := hg
    obtain ⟨its, rv, p, hz⟩ := I.list hq
    obtain ⟨f0, f1, f2, f3, f4, f5⟩ := hf it (by simp)
    have hl := rv.length
    exact wpAny_pyNext_list_end (I.ok.hd hc) st p.isList (by simp; omega) fun h' eb => ⟨rfl, I.turned (t' := s.toks) (fun b o hb e => eb b o hb e) f0 f1 f3 f4 f5⟩
  self := fun _ _ _ _ _ st h => wpAny_pyIter_listiter st h
theorem turn_range {P : Program} {w : World} {K : PySem.W.Frag} {tg : Expr} (it : Addr) (lo : Int) (n : Nat) : Turn P w K tg (Itr lo n) [it] it (fun i h => IsRangeIter h it (lo + (i : Nat) * 1) ((n : Int) - (i : Nat)) 1) where
  mem := by simp
  obj := fun i h st b hb => by
    have e : b = it := by simpa using hb
    subst e
    exact ⟨_, st, fun v z => by
      have z' : Data.fields _ = Data.cell v := z
      cases z'⟩
  keep := fun i h h' st k => k it (by simp) _ st
  item := by
    intro X hP hw hK hc i pins s σ H E I hf st hg
    subst hP hw hK
    obtain ⟨f0, f1, f2, f3, f4, f5⟩ := hf it (by simp)
    have W := Walks.range (prog := X.prog) (w := X.w) (I.ok.hd hc) it lo 1 n
    refine W.item i s _ _ hg st fun v h' tk hv st' kk => ?_
    obtain ⟨t, rfl⟩ := hv
    have I1 : Inv X pins σ H { s with heap := h', toks := tk } := I.turned (fun b o hb e => kk b o (by simpa using hb) e) f0 f1 f3 f4 f5
    refine ⟨_, rfl, go_of (s := { s with heap := h', toks := tk }) (n := "range_iterator") st' rfl rfl (by decide) ⟨.int (lo + i), H, I1, ⟨t, ?_⟩, ⟨rfl, rfl⟩, st', fun b hb => (hf b hb).1⟩⟩
    rw [Int.mul_one]
  done := by
    intro X hP hw hK hc i pins s σ H E I hf st hg
    subst hP hw hK
    obtain ⟨f0, f1, f2, f3, f4, f5⟩ := hf it (by simp)
    exact wpAny_pyNext_range_end (I.ok.hd hc) st (by have : n ≤ i := hg; omega) fun h' eb => ⟨rfl, I.turned (t' := s.toks) (fun b o hb e => eb b o hb e) f0 f1 f3 f4 f5⟩
  self := fun _ _ _ _ _ st h => wpAny_pyIter_rangeiter st h
end L2

namespace L2
open PySem PySem.Spec PyProof.Rows
section
variable {X : Cx} {tg : Expr}
def iList (K : PySem.W.Frag) (tl : TE) : TI := fun σ H R => tl σ H fun x H1 => ∃ a, x = .ref a ∧ (∃ xs, SqL K H1 a xs) ∧ R (Itl K a) H1
theorem pi_list {l : Expr} {tl : TE} (hl : PE X l tl) : PI X tg l (iList X.K tl) := by
  intro pins s σ H R I h
  refine thn (hl pins s σ H _ I h) fun v s1 ⟨x, H1, I1, r1, q1⟩ => ?_
  obtain ⟨a, e, ⟨xs, hq⟩, q⟩ := q1
  subst e
  cases r1
  obtain ⟨its, rv, p, hz⟩ := I1.list hq
  refine wpAny_pyIter_list p.isList ?_
  refine ⟨s1.heap.objs.size, [s1.heap.objs.size], _, _, H1, rfl, I1.kept (t' := s1.toks) fun b o e => Heap.get?_push_of_some _ e, turn_list a _, ⟨_, Heap.get?_push_size _ rfl, rfl, rfl⟩, fun b hb => ?_, q⟩
  have e : b = s1.heap.objs.size := by simpa using hb
  subst e
  exact I1.fpOk (Nat.le_refl _) (I1.hok.fresh (Nat.le_refl _))
/-- a range object just made, walked -/
theorem range_it {pins : List (Addr × Obj)} {σ : St} {H : Hp} {s : Shared} {R : It → Hp → Prop} {E : Value → Shared → Prop} {lo hi : Int} {t u v : Tok} {tk : Nat} (I : Inv X pins σ H s) (h1 : -(2 ^ 62) ≤ lo) (h2 : lo < 2 ^ 62) (h3 : -(2 ^ 62) ≤ hi) (h4 : hi < 2 ^ 62)
    (q : R (Itr lo (hi - lo).toNat) H) : wpAny (model X.prog X.w) X.A (pyIter (.ref s.heap.objs.size)) (PIE X pins σ tg R) E { s with heap := s.heap.push { cls := .type "range", data := .fields #[.int lo t, .int hi u, .int 1 v] }, toks := tk } := by
  refine wpAny_pyIter_range (IsRange.new ..) (small_one h1 h2 h3 h4) ?_
  have I1 : Inv X pins σ H { s with heap := s.heap.push { cls := .type "range", data := .fields #[.int lo t, .int hi u, .int 1 v] }, toks := tk } := I.kept fun b o e => Heap.get?_push_of_some _ e
  refine ⟨(s.heap.push { cls := .type "range", data := .fields #[.int lo t, .int hi u, .int 1 v] }).objs.size, [(s.heap.push { cls := .type "range", data := .fields #[.int lo t, .int hi u, .int 1 v] }).objs.size], _, _, H, rfl,
    I1.kept (t' := tk) fun b o e => Heap.get?_push_of_some _ e, turn_range _ lo (hi - lo).toNat, ?_, fun b hb => ?_, q⟩
  · have e1 : lo + ((0 : Nat) : Int) * 1 = lo := by simp
    have e2 : (((hi - lo).toNat : Nat) : Int) - ((0 : Nat) : Int) = Builtin.Range.rangeSize lo hi 1 := by rw [rangeSize_one]; split <;> omega
    show IsRangeIter _ _ (lo + ((0 : Nat) : Int) * 1) ((((hi - lo).toNat : Nat) : Int) - ((0 : Nat) : Int)) 1
    rw [e1, e2]
    exact Heap.get?_push_size _ rfl
  · have e : b = (s.heap.push { cls := .type "range", data := .fields #[.int lo t, .int hi u, .int 1 v] }).objs.size := by simpa using hb
    subst e
    exact I1.fpOk (Nat.le_refl _) (I1.hok.fresh (Nat.le_refl _))
def iRng1 (ta : TA) : TI := fun σ H R => ta σ H fun vs H1 => ∃ j : Int, vs = [.int j] ∧ -(2 ^ 62) ≤ j ∧ j < 2 ^ 62 ∧ R (Itr 0 j.toNat) H1
theorem pi_range1 {a : Expr} {ta : TA} {p pos : Pos} (hg : Gl X "range") (hm : X.mg "range" = none) (ha : PA X [a] ta) (hs : starEach [a] X.env = [(false, eval a X.env)] := by rfl) : PI X tg (.Call (.Name "range" p) [a] [] pos) (iRng1 ta) := by
  intro pins s σ H R I h
  refine Call_ (ld_blt I hg hm boot_range (PyProof.Rows.callWith_type1 (thn (ha pos pins s σ H _ I h) fun us s1 ⟨vs, H1, I1, r1, q1⟩ => ?_) hs rfl))
  obtain ⟨j, e, q1, q2, q⟩ := q1
  subst e
  cases r1 with
  | cons r rr =>
    cases rr
    obtain ⟨t, rfl⟩ := r
    exact call_range_1 (range_it I1 (by omega) (by omega) q1 q2 (by simpa using q))
/-! ### for -/
/-- W: the invariant by the turn and a measure; N: what the body is to reach -/
def tFor (wi : TI) (g : TG) (tb : TS) : TS := fun D σ H => wi σ H fun J H1 => ∃ W : Nat → Nat → St → Hp → Prop, (∃ m, W 0 m σ H1) ∧ ∀ i m σ H, W i m σ H →
  (J.stop i H ∧ D.nx σ H) ∨ (J.go i H ∧ ∃ N : St → Hp → Prop, (∀ σ' H', N σ' H' → ∃ m', m' < m ∧ W (i + 1) m' σ' H') ∧ ∀ x H', J.yld i H x H' → g x σ H' fun σ2 H2 => tb { D with nx := N, ct := N, bk := D.nx } σ2 H2)
/-- the records at fp as they stand -/
def pinsAt (fp : List Addr) (h : Heap) : List (Addr × Obj) := fp.filterMap fun b => (h.get? b).map fun o => (b, o)
theorem mem_pinsAt {fp : List Addr} {h : Heap} {b : Addr} {o : Obj} (hb : b ∈ fp) (e : h.get? b = some o) : (b, o) ∈ pinsAt fp h := List.mem_filterMap.mpr ⟨b, hb, by rw [e]; rfl⟩
theorem of_pinsAt {fp : List Addr} {h : Heap} {p : Addr × Obj} (hp : p ∈ pinsAt fp h) : p.1 ∈ fp ∧ h.get? p.1 = some p.2 := by
  obtain ⟨b, hb, e⟩ := List.mem_filterMap.mp hp
  cases q : h.get? b with
  | none => rw [q] at e; cases e
  | some o =>
    rw [q] at e
    have e' : (b, o) = p := Option.some.inj e
    subst e'
    exact ⟨hb, q⟩
theorem Inv.pinned {pins : List (Addr × Obj)} {σ : St} {H : Hp} {s : Shared} {fp : List Addr} (I : Inv X pins σ H s) (hf : ∀ b ∈ fp, FpOk X pins H b) (ho : ∀ b ∈ fp, ∃ o, s.heap.get? b = some o ∧ ∀ v, o.data ≠ .cell v) : Inv X (pins ++ pinsAt fp s.heap) σ H s :=
  I.pins_of fun p hp => (List.mem_append.mp hp).elim (fun z => I.pin p (List.mem_append_right _ z)) fun z => by
    obtain ⟨hb, e⟩ := of_pinsAt z
    obtain ⟨f0, f1, f2, _⟩ := hf p.1 hb
    obtain ⟨o, e', d⟩ := ho p.1 hb
    rw [e] at e'; cases e'
    exact ⟨e, f0, f1, f2, d⟩
theorem Inv.unpinned {pins pl : List (Addr × Obj)} {σ : St} {H : Hp} {s : Shared} (I : Inv X (pins ++ pl) σ H s) : Inv X pins σ H s := I.pins_of fun p hp => I.pin p (List.mem_append_right _ (List.mem_append_left _ hp))
theorem ps_for {iter : Expr} {body : List Stmt} {wi : TI} {g : TG} {tb : TS} {pos : Pos} (hp : PassesOwn (model X.prog X.w) X.A X.env X.xe) (hc : X.calm = true) (hi : PI X tg iter wi) (hg : PG X tg g) (hb : PSs X body tb)
    (hs : ∀ x, foldedSetIterable iter X.env x = pure x := by intro _; rfl) : PS X (.For tg iter body [] pos) (tFor wi g tb) := by
  intro pins s σ H D I h
  refine wpAny_For (thn (hi pins s σ H _ I h) fun v s1 h1 => thn h1 fun itv s2 h2 => ?_) hs
  obtain ⟨it, fp, tn, J, H2, e, I2, T, st2, f2, W, ⟨m0, w0⟩, turn⟩ := h2
  subst e
  -- what stays true of the iterator's objects through the loop
  have stat : ∀ {H' : Hp}, (∀ b ∈ fp, H' b = none) → ∀ b ∈ fp, FpOk X pins H' b := fun hn b hb => ⟨hn b hb, (f2 b hb).2⟩
  refine codeAny_forLoop_any (fun n s' => ∃ i σ' H', Inv X pins σ' H' s' ∧ tn i s'.heap ∧ (∀ b ∈ fp, H' b = none) ∧ W i n σ' H') ?_ m0 ⟨0, σ, H2, I2, st2, fun b hb => (f2 b hb).1, w0⟩
  rintro n s3 ⟨i, σ3, H3, I3, st3, fr3, w3⟩
  rcases turn i n σ3 H3 w3 with ⟨stop, qn⟩ | ⟨go, N, hN, step⟩
  · refine wpAny_passesOwn hp (thn (T.done X rfl rfl rfl hc i pins s3 σ3 H3 X.xe I3 (stat fr3) st3 stop) fun r s4 ⟨hr, I4⟩ => ?_)
    subst hr
    exact wpAny_execs_nil ⟨σ3, H3, I4, qn⟩
  · refine wpAny_passesOwn hp (thn (T.item X rfl rfl rfl hc i pins s3 σ3 H3 X.xe I3 (stat fr3) st3 go) fun r s4 ⟨u, hr, h4⟩ => ?_)
    subst hr
    refine wpAny_passesOwn hp (thn h4 fun _ s5 ⟨x, H5, I5, r5, y5, st5, fr5⟩ => ?_)
    have I5' := I5.pinned (stat fr5) (T.obj _ _ st5)
    refine wpAny_passesOwn hp (thn (hg _ s5 σ3 H5 x u _ I5' r5 (step x H5 y5)) fun _ s6 ⟨σ6, H6, I6, q6⟩ => ?_)
    refine wpAny_passesOwn hp (thn (hb _ s6 σ6 H6 _ I6 q6) fun f s7 q7 => ?_)
    have again : ∀ {σ7 : St} {H7 : Hp}, Inv X (pins ++ pinsAt fp s5.heap) σ7 H7 s7 → N σ7 H7 → ∃ m, m < n ∧ ∃ i σ' H', Inv X pins σ' H' s7 ∧ tn i s7.heap ∧ (∀ b ∈ fp, H' b = none) ∧ W i m σ' H' := fun {σ7 H7} I7 n7 => by
      obtain ⟨m', hm, w7⟩ := hN σ7 H7 n7
      refine ⟨m', hm, i + 1, σ7, H7, I7.unpinned, T.keep _ _ _ st5 fun b hb o e => (I7.pin (b, o) (List.mem_append_right _ (List.mem_append_right _ (mem_pinsAt hb e)))).1, fun b hb => ?_, w7⟩
      obtain ⟨o, e, d⟩ := T.obj _ _ st5 b hb
      exact (I7.pin (b, o) (List.mem_append_right _ (List.mem_append_right _ (mem_pinsAt hb e)))).2.1
    cases f with
    | next => obtain ⟨σ7, H7, I7, n7⟩ := q7; exact again I7 n7
    | cont => obtain ⟨σ7, H7, I7, n7⟩ := q7; exact again I7 n7
    | brk => obtain ⟨σ7, H7, I7, q7⟩ := q7; exact ⟨σ7, H7, I7.unpinned, q7⟩
    | ret v => obtain ⟨x7, σ7, H7, I7, r7, q7⟩ := q7; exact ⟨x7, σ7, H7, I7.unpinned, r7, q7⟩
end

/-! ### the forms one uses -/
/-- over a list that the body leaves as it is -/
theorem for_list {K : PySem.W.Frag} {a : Addr} {xs : List V} {g : TG} {tb : TS} {D : Ends} {σ : St} {H : Hp} (Pv : Nat → St → Hp → Prop) (h0 : Pv 0 σ H) (hl : ∀ i σ H, i ≤ xs.length → Pv i σ H → SqL K H a xs)
    (hs : ∀ i x σ H, xs[i]? = some x → Pv i σ H → g x σ H fun σ2 H2 => tb { D with nx := Pv (i + 1), ct := Pv (i + 1), bk := D.nx } σ2 H2) (hd : ∀ σ H, Pv xs.length σ H → D.nx σ H) :
    ∃ W : Nat → Nat → St → Hp → Prop, (∃ m, W 0 m σ H) ∧ ∀ i m σ H, W i m σ H →
      ((Itl K a).stop i H ∧ D.nx σ H) ∨ ((Itl K a).go i H ∧ ∃ N : St → Hp → Prop, (∀ σ' H', N σ' H' → ∃ m', m' < m ∧ W (i + 1) m' σ' H') ∧ ∀ x H', (Itl K a).yld i H x H' → g x σ H' fun σ2 H2 => tb { D with nx := N, ct := N, bk := D.nx } σ2 H2) := by
  refine ⟨fun i m σ H => m = xs.length - i ∧ i ≤ xs.length ∧ Pv i σ H, ⟨xs.length, by simp, Nat.zero_le _, h0⟩, ?_⟩
  rintro i m σ H ⟨rfl, hi, p⟩
  have q := hl i σ H hi p
  by_cases hlt : i < xs.length
  · refine .inr ⟨⟨xs, xs[i], q, by simp [hlt]⟩, Pv (i + 1), fun σ' H' p' => ⟨xs.length - (i + 1), by omega, rfl, hlt, p'⟩, fun x H' y => ?_⟩
    obtain ⟨e, y⟩ := y
    subst e
    exact hs i x σ _ (y xs q) p
  · have e : i = xs.length := by omega
    subst e
    exact .inl ⟨⟨xs, q, Nat.le_refl _⟩, hd σ H p⟩
theorem for_range {lo : Int} {n : Nat} {g : TG} {tb : TS} {D : Ends} {σ : St} {H : Hp} (Pv : Nat → St → Hp → Prop) (h0 : Pv 0 σ H)
    (hs : ∀ i σ H, i < n → Pv i σ H → g (.int (lo + i)) σ H fun σ2 H2 => tb { D with nx := Pv (i + 1), ct := Pv (i + 1), bk := D.nx } σ2 H2) (hd : ∀ σ H, Pv n σ H → D.nx σ H) :
    ∃ W : Nat → Nat → St → Hp → Prop, (∃ m, W 0 m σ H) ∧ ∀ i m σ H, W i m σ H →
      ((Itr lo n).stop i H ∧ D.nx σ H) ∨ ((Itr lo n).go i H ∧ ∃ N : St → Hp → Prop, (∀ σ' H', N σ' H' → ∃ m', m' < m ∧ W (i + 1) m' σ' H') ∧ ∀ x H', (Itr lo n).yld i H x H' → g x σ H' fun σ2 H2 => tb { D with nx := N, ct := N, bk := D.nx } σ2 H2) := by
  refine ⟨fun i m σ H => m = n - i ∧ i ≤ n ∧ Pv i σ H, ⟨n, by simp, Nat.zero_le _, h0⟩, ?_⟩
  rintro i m σ H ⟨rfl, hi, p⟩
  by_cases hlt : i < n
  · refine .inr ⟨hlt, Pv (i + 1), fun σ' H' p' => ⟨n - (i + 1), by omega, rfl, hlt, p'⟩, fun x H' y => ?_⟩
    obtain ⟨e, y⟩ := y
    subst e y
    exact hs i σ _ hlt p
  · have e : i = n := by omega
    subst e
    exact .inl ⟨Nat.le_refl _, hd σ H p⟩
end L2

namespace L2
open PySem PySem.Spec PyProof.Rows

abbrev R2 := V → V → Hp → VK → Prop
/-- a two-place operation on values: f is binaryOp op, inplaceOp op or compareOp op -/
def OpR (X : Cx) (f : Value → Value → Sem Value) (r : R2) : Prop :=
  ∀ (pins : List (Addr × Obj)) (s : Shared) (σ : St) (H : Hp) (x y : V) (v u : Value) (Q : VK), Inv X pins σ H s → RelV x v → RelV y u → r x y H Q →
    wpAny (model X.prog X.w) X.A (f v u) (EP X pins σ Q) X.xe s
/-- a one-place operation -/
def UnR (X : Cx) (f : Value → Sem Value) (r : V → Hp → VK → Prop) : Prop :=
  ∀ (pins : List (Addr × Obj)) (s : Shared) (σ : St) (H : Hp) (x : V) (v : Value) (Q : VK), Inv X pins σ H s → RelV x v → r x H Q →
    wpAny (model X.prog X.w) X.A (f v) (EP X pins σ Q) X.xe s
/-- a call of a value that is known (a builtin, a type) with values -/
def CallR (X : Cx) (f : Value) (r : List V → Hp → VK → Prop) : Prop :=
  ∀ (pins : List (Addr × Obj)) (s : Shared) (σ : St) (H : Hp) (xs : List V) (us : List Value) (Q : VK), Inv X pins σ H s → Vals xs us → r xs H Q →
    wpAny (model X.prog X.w) X.A (call f us) (EP X pins σ Q) X.xe s
def tOp (r : R2) (ta tb : TE) : TE := fun σ H Q => ta σ H fun x H1 => tb σ H1 fun y H2 => r x y H2 Q
def tUn (r : V → Hp → VK → Prop) (ta : TE) : TE := fun σ H Q => ta σ H fun x H1 => r x H1 Q
/-- ints in, under C, and a value out -/
def rI (C : Int → Int → Prop) (g : Int → Int → V) : R2 := fun x y H Q => ∃ i j, x = .int i ∧ y = .int j ∧ C i j ∧ Q (g i j) H
def rI0 (g : Int → Int → V) : R2 := fun x y H Q => ∃ i j, x = .int i ∧ y = .int j ∧ Q (g i j) H
def rU (g : Int → V) : V → Hp → VK → Prop := fun x H Q => ∃ i, x = .int i ∧ Q (g i) H

section
variable {X : Cx} {a b c : Expr} {ta tb tc : TE} {pos : Pos}

theorem binT (ha : PE X a ta) (hb : PE X b tb) {pins : List (Addr × Obj)} {s : Shared} {σ : St} {H : Hp} {R : V → V → Hp → Prop} (I : Inv X pins σ H s)
    (h : ta σ H fun x H1 => tb σ H1 fun y H2 => R x y H2) {Q : Value → Shared → Prop} {f : Value → Value → Sem Value}
    (hf : ∀ v u s2 x y H2, Inv X pins σ H2 s2 → RelV x v → RelV y u → R x y H2 → wpAny (model X.prog X.w) X.A (f v u) Q X.xe s2) :
    wpAny (model X.prog X.w) X.A (eval a X.env) (fun v s₁ => wpAny (model X.prog X.w) X.A (eval b X.env) (fun u s₂ => wpAny (model X.prog X.w) X.A (f v u) Q X.xe s₂) X.xe s₁) X.xe s := by
  refine thn (ha pins s σ H _ I h) fun v s1 ⟨x, H1, I1, r1, q1⟩ => ?_
  refine thn (hb pins s1 σ H1 _ I1 q1) fun u s2 ⟨y, H2, I2, r2, q2⟩ => ?_
  exact hf v u s2 x y H2 I2 r1 r2 q2

theorem pe_op {op : Operator} {r : R2} (ho : OpR X (binaryOp op) r) (ha : PE X a ta) (hb : PE X b tb) : PE X (.BinOp a op b pos) (tOp r ta tb) := by
  intro pins s σ H Q I h
  exact wpAny_BinOp (binT ha hb I h fun v u s2 x y H2 I2 rx ry q => ho pins s2 σ H2 x y v u Q I2 rx ry q)
theorem pe_un {op : UnaryOp} {r : V → Hp → VK → Prop} (ho : UnR X (unaryOp op) r) (ha : PE X a ta) : PE X (.UnaryOp op a pos) (tUn r ta) := by
  intro pins s σ H Q I h
  exact UnaryOp_ (thn (ha pins s σ H _ I h) fun v s1 ⟨x, H1, I1, r1, q1⟩ => ho pins s1 σ H1 x v Q I1 r1 q1)
/-! ### ints -/
theorem opI {f : Value → Value → Sem Value} {C : Int → Int → Prop} {g : Int → Int → Int}
    (rule : ∀ (i j : Int) (t u : Tok) (s : Shared) (Q : Value → Shared → Prop) (E : Value → Shared → Prop), C i j → Q (.int (g i j) s.toks) { s with toks := s.toks + 1 } → wpAny (model X.prog X.w) X.A (f (.int i t) (.int j u)) Q E s) :
    OpR X f (rI C fun i j => .int (g i j)) := by
  intro pins s σ H x y v u Q I rx ry h
  obtain ⟨i, j, rfl, rfl, hc, q⟩ := h
  obtain ⟨t, rfl⟩ := rx
  obtain ⟨t', rfl⟩ := ry
  exact rule i j t t' s _ _ hc ⟨.int (g i j), H, I.tok _, ⟨_, rfl⟩, q⟩
theorem opI0 {f : Value → Value → Sem Value} {g : Int → Int → Int}
    (rule : ∀ (i j : Int) (t u : Tok) (s : Shared) (Q : Value → Shared → Prop) (E : Value → Shared → Prop), Q (.int (g i j) s.toks) { s with toks := s.toks + 1 } → wpAny (model X.prog X.w) X.A (f (.int i t) (.int j u)) Q E s) :
    OpR X f (rI0 fun i j => .int (g i j)) := by
  intro pins s σ H x y v u Q I rx ry h
  obtain ⟨i, j, rfl, rfl, q⟩ := h
  obtain ⟨t, rfl⟩ := rx
  obtain ⟨t', rfl⟩ := ry
  exact rule i j t t' s _ _ ⟨.int (g i j), H, I.tok _, ⟨_, rfl⟩, q⟩
theorem opB0 {f : Value → Value → Sem Value} {g : Int → Int → Bool}
    (rule : ∀ (i j : Int) (t u : Tok) (s : Shared) (Q : Value → Shared → Prop) (E : Value → Shared → Prop), Q (.bool (g i j)) s → wpAny (model X.prog X.w) X.A (f (.int i t) (.int j u)) Q E s) :
    OpR X f (rI0 fun i j => .bl (g i j)) := by
  intro pins s σ H x y v u Q I rx ry h
  obtain ⟨i, j, rfl, rfl, q⟩ := h
  obtain ⟨t, rfl⟩ := rx
  obtain ⟨t', rfl⟩ := ry
  exact rule i j t t' s _ _ ⟨.bl (g i j), H, I, rfl, q⟩

def CDiv (i j : Int) : Prop := 0 < j ∧ j < 1073741824
def CPow (i j : Int) : Prop := 0 ≤ j ∧ j ≤ 1000000 ∧ i.natAbs < 2 ^ 64
def CMul (i j : Int) : Prop := (-(2 ^ 64) < i ∧ i < 2 ^ 64) ∨ (-(2 ^ 64) < j ∧ j < 2 ^ 64)
theorem CMul.ok {i j : Int} (h : CMul i j) : IntMulOk i j := by
  rcases h with ⟨h1, h2⟩ | ⟨h1, h2⟩
  · exact .of_left (intBits_le_64 h1 h2)
  · exact .of_right (intBits_le_64 h1 h2)
theorem op_add : OpR X (binaryOp .Add) (rI0 fun i j => .int (i + j)) := opI0 fun _ _ _ _ _ _ _ q => add_int q
theorem op_sub : OpR X (binaryOp .Sub) (rI0 fun i j => .int (i - j)) := opI0 fun _ _ _ _ _ _ _ q => sub_int q
theorem op_mul : OpR X (binaryOp .Mult) (rI CMul fun i j => .int (i * j)) := opI fun _ _ _ _ _ _ _ hc q => mul_int q hc.ok
/-- // by a positive divisor -/
theorem op_fdiv : OpR X (binaryOp .FloorDiv) (rI CDiv fun i j => .int (i / j)) := opI fun i j _ _ _ _ _ hc q => by
  have h1 : (0 : Int) < j := hc.1
  have h2 : j < 1073741824 := hc.2
  exact floordiv_int (by omega) (by rw [Int.fdiv_eq_ediv_of_nonneg i (by omega)]; exact q) (.inl (PyProof.noPylong_small (by omega)))
/-- % by a positive divisor of any size -/
theorem op_mod : OpR X (binaryOp .Mod) (rI (fun _ j => 0 < j) fun i j => .int (i % j)) := opI fun i j _ _ _ _ _ hc q => by
  have h1 : (0 : Int) < j := hc
  exact mod_int' (by omega) (by rw [Int.fmod_eq_emod_of_nonneg i (by omega)]; exact q)
theorem op_pow : OpR X (binaryOp .Pow) (rI CPow fun i j => .int (i ^ j.toNat)) := opI fun _ _ _ _ _ _ _ hc q => pow_int_small hc.1 hc.2.1 hc.2.2 q
theorem unI {f : Value → Sem Value} {g : Int → Int}
    (rule : ∀ (i : Int) (t : Tok) (s : Shared) (Q : Value → Shared → Prop) (E : Value → Shared → Prop), Q (.int (g i) s.toks) { s with toks := s.toks + 1 } → wpAny (model X.prog X.w) X.A (f (.int i t)) Q E s) :
    UnR X f (rU fun i => .int (g i)) := by
  intro pins s σ H x v Q I rx h
  obtain ⟨i, rfl, q⟩ := h
  obtain ⟨t, rfl⟩ := rx
  exact rule i t s _ _ ⟨.int (g i), H, I.tok _, ⟨_, rfl⟩, q⟩
theorem un_neg : UnR X (unaryOp .USub) (rU fun i => .int (-i)) := unI fun _ _ _ _ _ q => neg_int q
/-! ### bools among ints: n += (a < b) -/
end

/-! ### comparisons -/
/-- the scalars that == tells apart as data does -/
def scal : V → V → Bool
  | .non, .non => true | .non, .int _ => true | .int _, .non => true | .non, .bl _ => true | .bl _, .non => true | .non, .str _ => true | .str _, .non => true
  | .int _, .int _ => true | .bl _, .bl _ => true | .str _, .str _ => true | .byt _, .byt _ => true
  | .int _, .str _ => true | .str _, .int _ => true | .bl _, .str _ => true | .str _, .bl _ => true
  | _, _ => false
def rEq : R2 := fun x y H Q => scal x y = true ∧ Q (.bl (decide (x = y))) H
def rNe : R2 := fun x y H Q => scal x y = true ∧ Q (.bl (!decide (x = y))) H

theorem dec_int {i j : Int} : decide (V.int i = V.int j) = (i == j) := by
  rw [Bool.eq_iff_iff]
  simp
theorem dec_bl {i j : Bool} : decide (V.bl i = V.bl j) = (i == j) := by
  rw [Bool.eq_iff_iff]
  simp
theorem dec_str {i j : Str} : decide (V.str i = V.str j) = (i == j) := by
  rw [Bool.eq_iff_iff]
  simp
theorem dec_byt {i j : Array UInt8} : decide (V.byt i = V.byt j) = (i.toList == j.toList) := by
  rw [Bool.eq_iff_iff]
  cases i
  cases j
  simp

section
variable {X : Cx} {a b c : Expr} {ta tb tc : TE} {pos : Pos}
theorem fin_bl {pins : List (Addr × Obj)} {σ : St} {H : Hp} {s : Shared} {Q : VK} {k k' : Bool} (I : Inv X pins σ H s) (q : Q (.bl k) H) (e : k = k') : EP X pins σ Q (.bool k') s := by
  subst e
  exact ⟨.bl k, H, I, rfl, q⟩
theorem op_eq : OpR X (compareOp .Eq) rEq := by
  intro pins s σ H x y v u Q I rx ry h
  obtain ⟨hs, q⟩ := h
  cases x with
  | non =>
    cases rx
    cases y with
    | non => cases ry; exact PySem.EqNone.eq_none_none (fin_bl I q (by simp))
    | bl j => cases ry; exact PySem.EqNone.eq_none_bool (fin_bl I q (by simp))
    | int j => obtain ⟨t', rfl⟩ := ry; exact PySem.EqNone.eq_none_int (fin_bl I q (by simp))
    | str j => obtain ⟨t', rfl⟩ := ry; exact PySem.EqNone.eq_none_str (fin_bl I q (by simp))
    | _ => exact absurd (show false = true from hs) Bool.false_ne_true
  | bl i =>
    cases rx
    cases y with
    | non => cases ry; exact PySem.EqNone.eq_bool_none (fin_bl I q (by simp))
    | bl j => cases ry; exact eq_bool (fin_bl I q dec_bl)
    | str j => obtain ⟨t', rfl⟩ := ry; exact PySem.EqMixed.eq_bool_str (fin_bl I q (by simp))
    | _ => exact absurd (show false = true from hs) Bool.false_ne_true
  | int i =>
    obtain ⟨t, rfl⟩ := rx
    cases y with
    | non => cases ry; exact PySem.EqNone.eq_int_none (fin_bl I q (by simp))
    | int j => obtain ⟨t', rfl⟩ := ry; exact eq_int (fin_bl I q dec_int)
    | str j => obtain ⟨t', rfl⟩ := ry; exact PySem.EqMixed.eq_int_str (fin_bl I q (by simp))
    | _ => exact absurd (show false = true from hs) Bool.false_ne_true
  | str i =>
    obtain ⟨t, rfl⟩ := rx
    cases y with
    | non => cases ry; exact PySem.EqNone.eq_str_none (fin_bl I q (by simp))
    | bl j => cases ry; exact PySem.EqMixed.eq_str_bool (fin_bl I q (by simp))
    | int j => obtain ⟨t', rfl⟩ := ry; exact PySem.EqMixed.eq_str_int (fin_bl I q (by simp))
    | str j => obtain ⟨t', rfl⟩ := ry; exact eq_str (fin_bl I q dec_str)
    | _ => exact absurd (show false = true from hs) Bool.false_ne_true
  | byt i =>
    obtain ⟨t, rfl⟩ := rx
    cases y with
    | byt j => obtain ⟨t', rfl⟩ := ry; exact PySem.W.eq_bytes (fin_bl I q dec_byt)
    | _ => exact absurd (show false = true from hs) Bool.false_ne_true
  | _ => cases y <;> exact absurd (show false = true from hs) Bool.false_ne_true
theorem op_ne : OpR X (compareOp .NotEq) rNe := by
  intro pins s σ H x y v u Q I rx ry h
  obtain ⟨hs, q⟩ := h
  cases x with
  | non =>
    cases rx
    cases y with
    | non => cases ry; exact PySem.EqNone.ne_none_none (fin_bl I q (by simp))
    | bl j => cases ry; exact PySem.EqNone.ne_none_bool (fin_bl I q (by simp))
    | int j => obtain ⟨t', rfl⟩ := ry; exact PySem.EqNone.ne_none_int (fin_bl I q (by simp))
    | str j => obtain ⟨t', rfl⟩ := ry; exact PySem.EqNone.ne_none_str (fin_bl I q (by simp))
    | _ => exact absurd (show false = true from hs) Bool.false_ne_true
  | bl i =>
    cases rx
    cases y with
    | non => cases ry; exact PySem.EqNone.ne_bool_none (fin_bl I q (by simp))
    | bl j => cases ry; exact ne_bool (fin_bl I q (congrArg not dec_bl))
    | str j => obtain ⟨t', rfl⟩ := ry; exact PySem.EqMixed.ne_bool_str (fin_bl I q (by simp))
    | _ => exact absurd (show false = true from hs) Bool.false_ne_true
  | int i =>
    obtain ⟨t, rfl⟩ := rx
    cases y with
    | non => cases ry; exact PySem.EqNone.ne_int_none (fin_bl I q (by simp))
    | int j => obtain ⟨t', rfl⟩ := ry; exact ne_int (fin_bl I q (congrArg not dec_int))
    | str j => obtain ⟨t', rfl⟩ := ry; exact PySem.EqMixed.ne_int_str (fin_bl I q (by simp))
    | _ => exact absurd (show false = true from hs) Bool.false_ne_true
  | str i =>
    obtain ⟨t, rfl⟩ := rx
    cases y with
    | non => cases ry; exact PySem.EqNone.ne_str_none (fin_bl I q (by simp))
    | bl j => cases ry; exact PySem.EqMixed.ne_str_bool (fin_bl I q (by simp))
    | int j => obtain ⟨t', rfl⟩ := ry; exact PySem.EqMixed.ne_str_int (fin_bl I q (by simp))
    | str j => obtain ⟨t', rfl⟩ := ry; exact ne_str (fin_bl I q (congrArg not dec_str))
    | _ => exact absurd (show false = true from hs) Bool.false_ne_true
  | byt i =>
    obtain ⟨t, rfl⟩ := rx
    cases y with
    | byt j => obtain ⟨t', rfl⟩ := ry; exact PySem.W.ne_bytes (fin_bl I q (congrArg not dec_byt))
    | _ => exact absurd (show false = true from hs) Bool.false_ne_true
  | _ => cases y <;> exact absurd (show false = true from hs) Bool.false_ne_true

theorem op_lt : OpR X (compareOp .Lt) (rI0 fun i j => .bl (decide (i < j))) := opB0 fun _ _ _ _ _ _ _ q => lt_int q
theorem op_le : OpR X (compareOp .LtE) (rI0 fun i j => .bl (decide (i ≤ j))) := opB0 fun _ _ _ _ _ _ _ q => le_int q
theorem op_gt : OpR X (compareOp .Gt) (rI0 fun i j => .bl (decide (j < i))) := opB0 fun _ _ _ _ _ _ _ q => gt_int q
theorem op_ge : OpR X (compareOp .GtE) (rI0 fun i j => .bl (decide (j ≤ i))) := opB0 fun _ _ _ _ _ _ _ q => ge_int q
theorem nomark (b : Expr) {op : CmpOp} (h : op ≠ .In := by decide) (h2 : op ≠ .NotIn := by decide) : behindInMarks op b = false := by
  have e1 : (op == CmpOp.In) = false := by cases op <;> first | rfl | exact absurd rfl h
  have e2 : (op == CmpOp.NotIn) = false := by cases op <;> first | rfl | exact absurd rfl h2
  cases b <;> simp [behindInMarks, e1, e2]
/-- a comparison as a value; hm: nomark b, or (for in, not in) by with_unfolding_all rfl -/
theorem pe_cmpR {op : CmpOp} {r : R2} (ho : OpR X (compareOp op) r) (ha : PE X a ta) (hb : PE X b tb) (hm : behindInMarks op b = false) : PE X (.Compare a [op] [b] pos) (tOp r ta tb) := by
  intro pins s σ H Q I h
  exact wpAny_Compare1 (binT ha hb I h fun v u s2 x y H2 I2 rx ry q => ho pins s2 σ H2 x y v u Q I2 rx ry q) hm
/-- a reading of a value as a test -/
def tTest (t : TE) : TT := fun σ H Q => t σ H fun x H' => ∃ k, x = .bl k ∧ Q k H'
theorem pt_cmpR {op : CmpOp} {r : R2} (ho : OpR X (compareOp op) r) (ha : PE X a ta) (hb : PE X b tb) (hm : behindInMarks op b = false) : PT X (.Compare a [op] [b] pos) (tTest (tOp r ta tb)) := by
  intro pins s σ H Q I h
  refine wpAny_isTrue_Compare1 (thn (ha pins s σ H _ I h) fun v s1 ⟨x, H1, I1, r1, q1⟩ => thn (hb pins s1 σ H1 _ I1 q1) fun u s2 ⟨y, H2, I2, r2, q2⟩ =>
    thn (ho pins s2 σ H2 x y v u _ I2 r1 r2 q2) fun c s3 ⟨z, H3, I3, r3, k, e, q3⟩ => ?_) hm
  subst e
  cases r3
  exact wpAny_truthy_bool ⟨H3, I3, q3⟩
/-- a op1 b op2 c -/
def tChain (r r' : R2) (ta tb tc : TE) : TE := fun σ H Q => ta σ H fun x H1 => tb σ H1 fun y H2 => r x y H2 fun z H3 => ∃ k, z = .bl k ∧
  (if k = true then tc σ H3 fun w' H4 => r' y w' H4 Q else Q (.bl false) H3)
theorem pe_chain {op op' : CmpOp} {r r' : R2} (ho : OpR X (compareOp op) r) (ho' : OpR X (compareOp op') r') (ha : PE X a ta) (hb : PE X b tb) (hc : PE X c tc)
    (hm : lastMarks [op, op'] [b, c] = false := by with_unfolding_all rfl) : PE X (.Compare a [op, op'] [b, c] pos) (tChain r r' ta tb tc) := by
  intro pins s σ H Q I h
  refine Compare_chain (thn (ha pins s σ H _ I h) fun v s1 ⟨x, H1, I1, r1, q1⟩ => chain_link (thn (hb pins s1 σ H1 _ I1 q1) fun u s2 ⟨y, H2, I2, r2, q2⟩ =>
    thn (ho pins s2 σ H2 x y v u _ I2 r1 r2 q2) fun d s3 ⟨z, H3, I3, r3, k, e, q3⟩ => ?_)) hm
  subst e
  cases r3
  refine wpAny_truthy_bool ?_
  cases k with
  | false => exact ite_ff ⟨.bl false, H3, I3, rfl, q3⟩
  | true => exact ite_tt (chain_last (thn (hc pins s3 σ H3 _ I3 q3) fun w' s4 ⟨z', H4, I4, r4, q4⟩ => ho' pins s4 σ H4 y z' u w' Q I4 r2 r4 q4))
theorem pt_chain {op op' : CmpOp} {r r' : R2} (ho : OpR X (compareOp op) r) (ho' : OpR X (compareOp op') r') (ha : PE X a ta) (hb : PE X b tb) (hc : PE X c tc)
    (hm : lastMarks [op, op'] [b, c] = false := by with_unfolding_all rfl) : PT X (.Compare a [op, op'] [b, c] pos) (tTest (tChain r r' ta tb tc)) := by
  intro pins s σ H Q I h
  refine isTrue_chain (thn (ha pins s σ H _ I h) fun v s1 ⟨x, H1, I1, r1, q1⟩ => test_link (thn (hb pins s1 σ H1 _ I1 q1) fun u s2 ⟨y, H2, I2, r2, q2⟩ =>
    thn (ho pins s2 σ H2 x y v u _ I2 r1 r2 q2) fun d s3 ⟨z, H3, I3, r3, k, e, q3⟩ => ?_)) hm
  subst e
  cases r3
  refine wpAny_truthy_bool ?_
  cases k with
  | false =>
    obtain ⟨k', e', q'⟩ := q3
    cases e'
    exact ite_ff ⟨H3, I3, q'⟩
  | true =>
    refine ite_tt (test_last (thn (hc pins s3 σ H3 _ I3 q3) fun w' s4 ⟨z', H4, I4, r4, q4⟩ => thn (ho' pins s4 σ H4 y z' u w' _ I4 r2 r4 q4) fun d' s5 ⟨z2, H5, I5, r5, k2, e2, q5⟩ => ?_))
    subst e2
    cases r5
    exact wpAny_truthy_bool ⟨H5, I5, q5⟩

/-! ### truth -/
theorem line63 : (sizeLine : Nat) < 2 ^ 63 := by rw [sizeLine_eq]; decide
/-! ### strs and bytes -/
/-! ### scalar builtins, by CallR -/
theorem vals1 {x : V} {us : List Value} (r : Vals [x] us) : ∃ u, us = [u] ∧ RelV x u := by
  cases r with
  | cons r1 r2 => cases r2; exact ⟨_, rfl, r1⟩
theorem vals2 {x y : V} {us : List Value} (r : Vals [x, y] us) : ∃ u w', us = [u, w'] ∧ RelV x u ∧ RelV y w' := by
  cases r with
  | cons r1 r2 =>
    cases r2 with
    | cons r3 r4 => cases r4; exact ⟨_, _, rfl, r1, r3⟩
theorem call_max2 (hc : X.calm = true) : CallR X (.builtin "max") (fun xs H Q => ∃ i j, xs = [.int i, .int j] ∧ Q (.int (if j > i then j else i)) H) := by
  intro pins s σ H xs us Q I r h
  obtain ⟨i, j, rfl, q⟩ := h
  obtain ⟨u, w', rfl, ⟨t, rfl⟩, ⟨t', rfl⟩⟩ := vals2 r
  refine max_two_ints (I.ok.hd hc) fun h' tk k => ⟨_, H, I.kept k, ?_, q⟩
  by_cases hj : j > i
  · rw [if_pos hj, if_pos hj]; exact ⟨_, rfl⟩
  · rw [if_neg hj, if_neg hj]; exact ⟨_, rfl⟩
end
end L2

namespace L2
open PySem PySem.Spec PyProof.Rows

/-! ### an instance, its attributes a map -/
structure ObjM (h : Heap) (x dx C : Addr) (mA : Str → Option Value) : Prop where
  obj : h.get? x = some (PySem.W.instObj C dx)
  ns : h.Ns1 dx mA
  ne : dx ≠ x

theorem lookIn_ns {h : Heap} {dx : Addr} {mA : Str → Option Value} (n : h.Ns1 dx mA) : ∃ od, h.get? dx = some od ∧ ∀ name, PySem.W.lookIn name od = some (mA name) := by
  obtain ⟨o, es, ep, ho, hd, hk, _, hm⟩ := n
  refine ⟨o, ho, fun name => ?_⟩
  have e := hm name
  unfold nsFind findBy at e
  rw [← Array.find?_toList] at e
  unfold PySem.W.lookIn
  rw [hd]
  dsimp only
  split
  · rename_i y q
    rw [q] at e
    exact congrArg some e
  · rename_i q
    rw [q] at e
    have a : es.toList.any (·.refKey) = false := by
      rw [List.any_eq_false]
      intro y hy
      obtain ⟨z, t, hkey⟩ := hk y (Array.mem_toList_iff.mp hy)
      simp [DictEntry.refKey, hkey]
    have a' : ¬ es.toList.any (·.refKey) = true := by rw [a]; exact Bool.false_ne_true
    rw [if_neg a']
    exact congrArg some e

theorem ObjM.look {h : Heap} {x dx C : Addr} {mA : Str → Option Value} (I : ObjM h x dx C mA) : ∃ od, PySem.W.InstAt h x (PySem.W.instObj C dx) C (some od) ∧ ∀ name, PySem.W.lookIn name od = some (mA name) :=
  let ⟨od, ho, hl⟩ := lookIn_ns I.ns
  ⟨od, ⟨I.obj, rfl, rfl, ho⟩, hl⟩

section
variable {prog : Program} {w : World} {A : Around} {E : Value → Shared → Prop} {s : Shared} {K : PySem.W.Frag} {x dx C f : Addr} {mA : Str → Option Value} {name : Str} {v : Value}

theorem get_map {expr : Bool} {Q : Value → Shared → Prop} (X : K.In s.heap) (I : ObjM s.heap x dx C mA) (hg : PySem.W.plainGet K C name = true) (hh : PySem.W.hasDictIn K C = true)
    (ha : PySem.W.findIn K (.ref C) name = some none) (hv : mA name = some v) (hv' : PySem.W.handedIn v = true) (h : Q v { s with toks := s.toks + 1 }) :
    wpAny (model prog w) A (getAttr (.ref x) name expr) Q E s := by
  obtain ⟨od, J, hl⟩ := I.look
  exact PySem.W.get_value X J (PySem.W.plainGet_of hg).1 (PySem.W.findObj_own hh ha rfl (by rw [hl, hv])) hv' h

theorem set_map {ns : List Str} {Q : Unit → Shared → Prop} (X : K.In s.heap) (I : ObjM s.heap x dx C mA)
    (hs : PySem.W.findIn K (.ref C) "__setattr__" = some (some (.builtin "object.__setattr__"))) (hp : PySem.W.plainOver K C = true) (ht : PySem.W.takerIn K C name = some none) (hh : PySem.W.hasDictIn K C = true)
    (hw : PySem.Within mA ns) (hsz : ns.length ≤ sizeLine)
    (h : ∀ h', ObjM h' x dx C (fun y => if y = name then some v else mA y) → Heap.SameBut dx s.heap h' → Q () { s with heap := h', toks := s.toks + 2 }) :
    wpAny (model prog w) A (setAttr (.ref x) name v) Q E s := by
  obtain ⟨od, J, hl⟩ := I.look
  refine PySem.W.set_plain X J hs (PySem.W.osa_open (s := { s with toks := s.toks + 1 }) (r := none) X J hp ht fun b => ?_)
  obtain ⟨cd, hc, hd'⟩ := PySem.W.any_some hh
  have hx : s.heap.get? x = some ⟨.ref C, some dx, .plain, #[]⟩ := I.obj
  refine wpAny_bind (wpAny_pure (wpAny_bind (wpAny_bind (wpAny_loadPart hx (wpAny_bind (PySem.W.Looks.here (s := { s with toks := s.toks + 1 }) (PySem.W.looks_clsIn X hc) ?_))))))
  rw [hd']
  refine wpAny_pure (a := some dx) (wpAny_bind (wpAny_pure (wpAny_bind ?_)))
  refine wpAny_nsSet1 (s := { s with toks := s.toks + 1 }) I.ns fun h' hn2 hs2 => ?_
  obtain ⟨oD, esD, epD, hoD, hdD, hcD⟩ := hn2.count (PySem.Within.cons name v hw)
  refine wpAny_bind (wpAny_lookBehind hoD (by rw [hdD]; exact pastItsLine_dict (Nat.le_trans hcD (by rw [List.length_cons]; omega))) ?_)
  exact wpAny_pure (h _ ⟨(hs2.2 _ (Ne.symm I.ne)).trans I.obj, hn2, I.ne⟩ hs2)

/-- C(..): the dict at the heap's end, the instance behind it; then its __init__ -/
theorem make_map {R : Result → Shared → Prop} {vs : List Value} {kw : List (Str × Value)} (X : K.In s.heap) (hm : PySem.W.makesIn K C = true)
    (hi : PySem.W.findIn K (.ref C) "__init__" = some (some (.ref f))) (hf : PySem.W.typeIn K (.ref f) = some (.type "function"))
    (h : codeAny (model prog w) (A.under (.builtin "type.__call__" ⟨.ref C :: vs, kw⟩)) (.call (.ref f) ⟨.ref (s.heap.objs.size + 1) :: vs, kw⟩) (PySem.W.InitBack (s.heap.objs.size + 1) R)
      { s with heap := (s.heap.push PySem.W.emptyDict).push (PySem.W.instObj C s.heap.objs.size) }) :
    codeAny (model prog w) A (.call (.ref C) ⟨vs, kw⟩) R s := by
  obtain ⟨hh, g, d, t, os⟩ := s
  exact PySem.W.make_core (PySem.W.makes_of X hm) (PySem.W.looks_findIn X hi) (fun self => PySem.W.bind_fn X self hf) (.inl rfl) h
end

/-! ### the attributes as a list of pairs -/
def putF (f : Str) (v : V) : List (Str × V) → List (Str × V)
  | [] => [(f, v)]
  | (g, x) :: r => if g = f then (g, v) :: r else (g, x) :: putF f v r
theorem lookup_putF (f g : Str) (v : V) : ∀ fs : List (Str × V), (putF f v fs).lookup g = if g = f then some v else fs.lookup g
  | [] => by
    show List.lookup g [(f, v)] = _
    by_cases h : g = f
    · have hb : (g == f) = true := beq_iff_eq.mpr h
      simp only [List.lookup, hb, if_pos h]
    · have hb : (g == f) = false := beq_eq_false_iff_ne.mpr h
      simp only [List.lookup, hb, if_neg h]
  | (k, x) :: r => by
    have ih := lookup_putF f g v r
    rw [show putF f v ((k, x) :: r) = (if k = f then (k, v) :: r else (k, x) :: putF f v r) from rfl]
    by_cases hk : k = f
    · rw [if_pos hk]
      by_cases h : g = k
      · have hb : (g == k) = true := beq_iff_eq.mpr h
        simp only [List.lookup, hb, if_pos (h.trans hk)]
      · have hb : (g == k) = false := beq_eq_false_iff_ne.mpr h
        simp only [List.lookup, hb, if_neg (fun e : g = f => h (e.trans hk.symm))]
    · rw [if_neg hk]
      by_cases h : g = k
      · have hb : (g == k) = true := beq_iff_eq.mpr h
        simp only [List.lookup, hb, if_neg (fun e : g = f => hk (h.symm.trans e))]
      · have hb : (g == k) = false := beq_eq_false_iff_ne.mpr h
        simp only [List.lookup, hb]
        exact ih
theorem keys_putF (f : Str) (v : V) : ∀ fs : List (Str × V), f ∈ (putF f v fs).map (·.1) ∧ ∀ g, g ∈ fs.map (·.1) → g ∈ (putF f v fs).map (·.1)
  | [] => ⟨by simp [putF], fun g h => by simp at h⟩
  | (k, x) :: r => by
    obtain ⟨i1, i2⟩ := keys_putF f v r
    rw [show putF f v ((k, x) :: r) = (if k = f then (k, v) :: r else (k, x) :: putF f v r) from rfl]
    by_cases hk : k = f
    · rw [if_pos hk]
      subst hk
      exact ⟨by simp, fun g h => by simpa using h⟩
    · rw [if_neg hk]
      refine ⟨?_, fun g h => ?_⟩
      · rw [List.map_cons]
        exact List.mem_cons_of_mem _ i1
      · rw [List.map_cons] at h ⊢
        rcases List.mem_cons.mp h with e | e
        · exact List.mem_cons.mpr (.inl e)
        · exact List.mem_cons_of_mem _ (i2 g e)
theorem length_putF (f : Str) (v : V) : ∀ fs : List (Str × V), (putF f v fs).length ≤ fs.length + 1
  | [] => by simp [putF]
  | (k, x) :: r => by
    have ih := length_putF f v r
    rw [show putF f v ((k, x) :: r) = (if k = f then (k, v) :: r else (k, x) :: putF f v r) from rfl]
    by_cases hk : k = f
    · rw [if_pos hk, List.length_cons, List.length_cons]; omega
    · rw [if_neg hk, List.length_cons, List.length_cons]; omega

theorem RelO.some_of {v : V} {o : Option Value} (r : RelO (some v) o) : ∃ u, o = some u ∧ RelV v u := by
  cases o with
  | none => exact (show False from r).elim
  | some u => exact ⟨u, rfl, r⟩
theorem handed_of {v : V} {u : Value} (r : RelV v u) : PySem.W.handedIn u = true := by
  cases v with
  | non => cases (show u = Value.none from r); rfl
  | bl b => cases (show u = Value.bool b from r); rfl
  | int i => obtain ⟨t, e⟩ := (show ∃ t, u = Value.int i t from r); cases e; rfl
  | str x => obtain ⟨t, e⟩ := (show ∃ t, u = Value.str x t from r); cases e; rfl
  | byt b => obtain ⟨t, e⟩ := (show ∃ t, u = Value.bytes b t from r); cases e; rfl
  | flt b => obtain ⟨t, e⟩ := (show ∃ t, u = Value.float b t from r); cases e; rfl
  | ref a => cases (show u = Value.ref a from r); rfl
  | ty n => cases (show u = Value.type n from r); rfl

section
variable {P : Program} {w : World} {H H' : Hp} {h h' : Heap} {a C dx : Addr} {fs fs' : List (Str × V)}
theorem ins_get (hok : HOk P w H h) (e : H a = some (.ins C dx fs)) : ∃ mA, ObjM h a dx C mA ∧ (∀ f, RelO (fs.lookup f) (mA f)) ∧ PySem.Within mA (fs.map (·.1)) ∧ fs.length ≤ 1000 ∧ H dx = some (.own a) := by
  obtain ⟨d, z, ne, ob, mA, n, r, q⟩ := (show ObjOk P w H h a (.ins C dx fs) from hok a _ e)
  exact ⟨mA, ⟨ob, n, ne⟩, r, q, z, d⟩
end

/-! ### what of the text a class must have -/
structure Cls (K : PySem.W.Frag) (C : Addr) : Prop where
  pg : PySem.W.plainGet K C Str.empty = true
  hd : PySem.W.hasDictIn K C = true
  po : PySem.W.plainOver K C = true
  sa : PySem.W.findIn K (.ref C) "__setattr__" = some (some (.builtin "object.__setattr__"))
theorem Cls.get {K : PySem.W.Frag} {C : Addr} (c : Cls K C) (f : Str) : PySem.W.plainGet K C f = true := c.pg
/-- no class of it has the name -/
def NoAttr (K : PySem.W.Frag) (C : Addr) (f : Str) : Prop := PySem.W.findIn K (.ref C) f = some none
theorem NoAttr.taker {K : PySem.W.Frag} {C : Addr} {f : Str} (n : NoAttr K C f) : PySem.W.takerIn K C f = some none := by
  unfold PySem.W.takerIn
  rw [show PySem.W.findIn K (.ref C) f = some none from n]
  rfl
section
variable {X : Cx} {pins : List (Addr × Obj)} {σ : St} {H : Hp} {s : Shared} {a C dx : Addr} {fs : List (Str × V)} {f : Str} {v : V} {A : Around} {E : Value → Shared → Prop}

theorem getattr_ok {b : Bool} {Q : Value → Shared → Prop} (I : Inv X pins σ H s) (e : H a = some (.ins C dx fs)) (c : Cls X.K C) (n : NoAttr X.K C f) (l : fs.lookup f = some v)
    (h : ∀ u s', Inv X pins σ H s' → RelV v u → Q u s') : wpAny (model X.prog X.w) A (getAttr (.ref a) f b) Q E s := by
  obtain ⟨mA, O, r, _, _, _⟩ := ins_get I.hok e
  obtain ⟨u, hu, ru⟩ := RelO.some_of (v := v) (o := mA f) (by rw [← l]; exact r f)
  exact get_map I.kIn O (c.get f) c.hd n hu (handed_of ru) (h u _ (I.tok _) ru)

theorem setattr_ok {y : V} {u : Value} {Q : Unit → Shared → Prop} (I : Inv X pins σ H s) (e : H a = some (.ins C dx fs)) (c : Cls X.K C) (n : NoAttr X.K C f) (hl : fs.length < 1000) (ry : RelV y u)
    (h : ∀ s', Inv X pins σ (upd H a (.ins C dx (putF f y fs))) s' → Q () s') : wpAny (model X.prog X.w) A (setAttr (.ref a) f u) Q E s := by
  obtain ⟨mA, O, r, wi, _, ho⟩ := ins_get I.hok e
  have hz : (fs.map (·.1)).length ≤ sizeLine := by rw [List.length_map, sizeLine_eq]; omega
  refine set_map I.kIn O c.sa c.po n.taker c.hd wi hz fun h' O' sb => h _ ?_
  have hd : ∃ o, h'.get? dx = some o := let ⟨o, _, _, e', _⟩ := O'.ns; ⟨o, e'⟩
  refine I.write (x := a) (e := dx) (by rw [e]; exact True.intro) (.inr ho) (fun b q hb z => (sb.2 b hb).trans z) hd ?_
  refine ⟨by rw [upd_ne O.ne]; exact ho, ?_, O.ne, O'.obj, _, O'.ns, fun g => ?_, fun g hg => ?_⟩
  · have := length_putF f y fs; omega
  · show RelO ((putF f y fs).lookup g) (if g = f then some u else mA g)
    rw [lookup_putF]
    by_cases q : g = f
    · rw [if_pos q, if_pos q]; exact ry
    · rw [if_neg q, if_neg q]; exact r g
  · by_cases q : g = f
    · rw [q]; exact (keys_putF f y fs).1
    · refine (keys_putF f y fs).2 g (wi g fun z => hg ?_)
      show (if g = f then some u else mA g) = none
      rw [if_neg q]; exact z

/-- a new instance, tracked, without attributes -/
theorem Inv.made (I : Inv X pins σ H s) : Inv X pins σ (upd (upd H s.heap.objs.size (.own (s.heap.objs.size + 1))) (s.heap.objs.size + 1) (.ins C s.heap.objs.size []))
    { s with heap := (s.heap.push PySem.W.emptyDict).push (PySem.W.instObj C s.heap.objs.size) } := by
  have e1 : (s.heap.push PySem.W.emptyDict).get? s.heap.objs.size = some PySem.W.emptyDict := Heap.get?_push_size s.heap rfl
  have e2 : ((s.heap.push PySem.W.emptyDict).push (PySem.W.instObj C s.heap.objs.size)).get? (s.heap.objs.size + 1) = some (PySem.W.instObj C s.heap.objs.size) := by
    have := Heap.get?_push_size (s.heap.push PySem.W.emptyDict) (o := PySem.W.instObj C s.heap.objs.size) rfl
    rwa [Heap.size_push] at this
  have e3 : (s.heap.push PySem.W.emptyDict).Ns s.heap.objs.size (fun _ => none) := ⟨PySem.W.emptyDict, #[], _, e1, rfl, (fun e he => absurd he (by simp)), fun _ => rfl⟩
  have I1 := I.laid (a := s.heap.objs.size) (o := .own (s.heap.objs.size + 1)) (h' := s.heap.push PySem.W.emptyDict) (t' := s.toks) (fun b u q => Heap.get?_push_of_some _ q) (Nat.le_refl _) ⟨_, e1⟩
  refine I1.laid (a := s.heap.objs.size + 1) (o := .ins C s.heap.objs.size []) (t' := s.toks) (fun b u q => Heap.get?_push_of_some _ q) (Nat.le_of_eq (Heap.size_push _ _)) ?_
  have ne : s.heap.objs.size ≠ s.heap.objs.size + 1 := Nat.ne_of_lt (Nat.lt_succ_self _)
  refine ⟨by rw [upd_ne ne, upd_same], Nat.zero_le _, ne, e2, fun _ => none, (Heap.Ns1.of_empty e3).at fun o q => Heap.get?_push_of_some _ q, fun _ => True.intro, fun y hy => absurd rfl hy⟩

/-- e.f where nothing but the object is asked: through attributeBase (super) and the last hold -/
theorem attr_of {prog : Program} {w : World} {env : Env} {e : Expr} {f : Str} {pos : Pos} {s : Shared} {Q : Value → Shared → Prop} (hb : attributeBase e f env (eval e env) = eval e env)
    (h : wpAny (model prog w) A (eval e env) (fun o s₁ => wpAny (model prog w) A (getAttr o f true) Q E s₁) E s) : wpAny (model prog w) A (eval (.Attribute e f pos) env) Q E s :=
  Attribute_any_ h (by rw [arm_eval_Attribute, hb])
end

/-! ### readings and rules -/
/-- e.f, an attribute of the instance -/
def tFld (K : PySem.W.Frag) (ta : TE) (f : Str) : TE := fun σ H Q => ta σ H fun x H1 => ∃ a C dx fs v, x = .ref a ∧ H1 a = some (.ins C dx fs) ∧ Cls K C ∧ NoAttr K C f ∧ fs.lookup f = some v ∧ Q v H1
/-- e.f = value -/
def sFld (K : PySem.W.Frag) (ta tv : TE) (f : Str) : TS := fun D σ H => tv σ H fun y H1 => ta σ H1 fun x H2 => ∃ a C dx fs, x = .ref a ∧ H2 a = some (.ins C dx fs) ∧ Cls K C ∧ NoAttr K C f ∧ fs.length < 1000 ∧
  D.nx σ (upd H2 a (.ins C dx (putF f y fs)))
section
variable {X : Cx} {o e value : Expr} {f : Str} {pos pos' tpos : Pos} {ta tv : TE}
theorem pe_fld (he : PE X e ta) (hb : attributeBase e f X.env (eval e X.env) = eval e X.env) : PE X (.Attribute e f pos) (tFld X.K ta f) := by
  intro pins s σ H Q I h
  refine attr_of hb (thn (he pins s σ H _ I h) fun u s1 ⟨x, H1, I1, rx, a, C, dx, fs, v, ex, ea, c, n, l, q⟩ => ?_)
  subst ex
  obtain rfl : u = Value.ref a := rx
  exact getattr_ok I1 ea c n l fun u' s2 I2 ru => ⟨v, H1, I2, ru, q⟩
theorem ps_fld (ha : PE X o ta) (hv : PE X value tv) (hs : swapsWith value (some (.Attribute o f pos')) pos.line X.env = pure false) : PS X (.Assign [.Attribute o f pos'] value pos) (sFld X.K ta tv f) := by
  intro pins s σ H D I h
  refine plainObj_wpAny_Assign_Attribute (thn (hv pins s σ H _ I h) fun u s1 ⟨y, H1, I1, ry, q⟩ => thn (ha pins s1 σ H1 _ I1 q) fun ov s2 ⟨x, H2, I2, rx, a, C, dx, fs, ex, ea, c, n, l, q2⟩ => ?_) hs
  subst ex
  obtain rfl : ov = Value.ref a := rx
  exact setattr_ok I2 ea c n l ry fun s3 I3 => ⟨σ, _, I3, q2⟩
end

/-! ### isinstance -/
section
variable {X : Cx} {pins : List (Addr × Obj)} {σ : St} {H : Hp} {s : Shared} {A : Around} {E : Value → Shared → Prop} {Q : Value → Shared → Prop} {c : Value} {b : Bool}
/-- the type of a value, as the fragment's deciders take it; for an instance its class -/
inductive TyOf (K : PySem.W.Frag) (H : Hp) : V → Value → Prop where
  | non : TyOf K H .non (.type "NoneType")
  | bl (x : Bool) : TyOf K H (.bl x) (.type "bool")
  | int (i : Int) : TyOf K H (.int i) (.type "int")
  | str (x : Str) : TyOf K H (.str x) (.type "str")
  | flt (x : UInt64) : TyOf K H (.flt x) (.type "float")
  | lst {a : Addr} {xs : List V} (e : H a = some (.lst xs)) : TyOf K H (.ref a) (.type "list")
  | frz {a : Addr} {o : Obj} {xs : List V} (e : H a = some (.frz o (.lst xs))) : TyOf K H (.ref a) (.type "list")
  | tup {a : Addr} {xs : List V} (e : H a = some (.tup xs)) : TyOf K H (.ref a) (.type "tuple")
  | dK {a : Addr} {kvs : List (Key × V)} (e : H a = some (.dK kvs)) : TyOf K H (.ref a) (.type "dict")
  | dT {a : Addr} {kvs : List (List Key × V)} (e : H a = some (.dT kvs)) : TyOf K H (.ref a) (.type "dict")
  | ins {a C dx : Addr} {fs : List (Str × V)} (e : H a = some (.ins C dx fs)) (cl : Cls K C) (ha : PySem.W.findIn K (.ref C) "__class__" = some (some (.builtin "object.__class__")))
      (hn : PySem.W.specialIn K (.builtin "object.__class__") "__get__" = some (some (.builtin "getset_descriptor.__get__"))) (htk : PySem.W.takesIn K (.builtin "object.__class__") = some true)
      (hm : PySem.W.mroIn K C (.type "object") = some true) : TyOf K H (.ref a) (.ref C)
/-- isinstance(x, c) for one class c, a built-in or an own one: kitOne's answer -/
theorem isinst_ok {x : V} {u t : Value} (I : Inv X pins σ H s) (rx : RelV x u) (ty : TyOf X.K H x t) (e : PySem.W.kitOne X.K t c = some b) (h : ∀ tk, Q (.bool b) { s with toks := tk }) :
    wpAny (model X.prog X.w) A (call (.builtin "isinstance") [u, c]) Q E s := by
  cases ty with
  | non => cases (show u = Value.none from rx); exact PySem.W.kia_one PySem.W.kitx_none I.kIn True.intro e (fun z => nomatch z) h
  | bl y => cases (show u = Value.bool y from rx); exact PySem.W.kia_one PySem.W.kitx_bool I.kIn True.intro e (fun z => nomatch z) h
  | int i => obtain ⟨t, q⟩ := (show ∃ t, u = Value.int i t from rx); cases q; exact PySem.W.kia_one PySem.W.kitx_int I.kIn True.intro e (fun z => nomatch z) h
  | str y => obtain ⟨t, q⟩ := (show ∃ t, u = Value.str y t from rx); cases q; exact PySem.W.kia_one PySem.W.kitx_str I.kIn True.intro e (fun z => nomatch z) h
  | flt y => obtain ⟨t, q⟩ := (show ∃ t, u = Value.float y t from rx); cases q; exact PySem.W.kia_one PySem.W.kitx_float I.kIn True.intro e (fun z => nomatch z) h
  | @lst a xs ea =>
    cases (show u = Value.ref a from rx)
    obtain ⟨_, _, n, _, h1⟩ := (show ObjOk X.prog X.w H s.heap a (.lst xs) from I.hok a _ ea)
    exact PySem.W.kia_one PySem.W.kitx_list I.kIn ⟨_, h1, rfl⟩ e (fun z => nomatch z) h
  | @frz a ob xs ea =>
    cases (show u = Value.ref a from rx)
    obtain ⟨_, _, _, n, _, h1⟩ := (show ObjOk X.prog X.w H s.heap a (.frz ob (.lst xs)) from I.hok a _ ea)
    exact PySem.W.kia_one PySem.W.kitx_list I.kIn ⟨_, h1, rfl⟩ e (fun z => nomatch z) h
  | @tup a xs ea =>
    cases (show u = Value.ref a from rx)
    obtain ⟨_, _, _, p⟩ := (show ObjOk X.prog X.w H s.heap a (.tup xs) from I.hok a _ ea)
    obtain ⟨o, h1, h2, _⟩ := p
    exact PySem.W.kia_one PySem.W.kitx_tuple I.kIn ⟨o, h1, h2⟩ e (fun z => nomatch z) h
  | @dK a kvs ea =>
    cases (show u = Value.ref a from rx)
    obtain ⟨_, _, vs, _, p⟩ := (show ObjOk X.prog X.w H s.heap a (.dK kvs) from I.hok a _ ea)
    obtain ⟨o, es, ep, h1, h2, _⟩ := p
    exact PySem.W.kia_one PySem.W.kitx_dict I.kIn ⟨o, h1, h2.1⟩ e (fun z => nomatch z) h
  | @dT a kvs ea =>
    cases (show u = Value.ref a from rx)
    obtain ⟨_, _, xs, _, o, es, ep, h1, h2, _⟩ := (show ObjOk X.prog X.w H s.heap a (.dT kvs) from I.hok a _ ea)
    exact PySem.W.kia_one PySem.W.kitx_dict I.kIn ⟨o, h1, h2.1⟩ e (fun z => nomatch z) h
  | @ins a C dx fs ea cl ha hn htk hm =>
    cases (show u = Value.ref a from rx)
    obtain ⟨mA, O, _⟩ := ins_get I.hok ea
    obtain ⟨od, J, _⟩ := O.look
    exact PySem.W.kia_one (PySem.W.kitx_own (cl.get _) cl.hd ha hn htk hm) I.kIn J e (fun z => nomatch z) h
end
end L2

namespace L2
open PySem PySem.Spec PyProof.Rows

/-! ### room -/
structure Room (k : Nat) (A : Around) : Prop where
  hd : A.handled = none
  dp : A.depth + 3 * k + 5 < recursionLimit
  un : A.units + 16 * k + 200 < cLine
theorem Room.mono {j k : Nat} {A : Around} (r : Room k A) (h : j ≤ k) : Room j A := ⟨r.hd, by have := r.dp; omega, by have := r.un; omega⟩
theorem Room.deeper {k : Nat} {A : Around} (r : Room (k + 1) A) (env : Env) : Room k (A.deeper env) :=
  ⟨r.hd, by have := r.dp; show A.depth + 1 + 3 * k + 5 < _; omega, by have := r.un; show A.units + 3 + 16 * k + 200 < _; omega⟩
theorem make_depth {A : Around} {C : Addr} {us : List Value} {kw : List (Str × Value)} : (A.under (.builtin "type.__call__" ⟨.ref C :: us, kw⟩)).depth = A.depth + 1 := by
  first | rfl | simp [Around.under, Code.weight, Code.isCreation, Code.isGuard, Code.isCaller, Code.frames, Code.isFrame, guardIds]
theorem make_units {A : Around} {C : Addr} {us : List Value} {kw : List (Str × Value)} : (A.under (.builtin "type.__call__" ⟨.ref C :: us, kw⟩)).units = A.units + 1 := by
  first | rfl | simp [Around.under, Code.cUnits, Code.frames, Code.isFrame]
theorem Room.make {k : Nat} {A : Around} (r : Room (k + 1) A) (C : Addr) (us : List Value) (kw : List (Str × Value)) : Room k (A.under (.builtin "type.__call__" ⟨.ref C :: us, kw⟩)) :=
  ⟨r.hd, by have := r.dp; rw [make_depth]; omega, by have := r.un; rw [make_units]; omega⟩
theorem Room.depth {k : Nat} {A : Around} (r : Room k A) : A.depth < recursionLimit := by have := r.dp; omega
theorem Room.units {k : Nat} {A : Around} (r : Room k A) : A.units + 64 < cLine := by have := r.un; omega
/-! ### argument lists and displays -/
def tNil : TA := fun _ H Q => Q [] H
def tCons (ta : TE) (tr : TA) : TA := fun σ H Q => ta σ H fun x H1 => tr σ H1 fun xs H2 => Q (x :: xs) H2
section
variable {X : Cx} {e : Expr} {es : List Expr} {te : TE} {t : TA} {pos : Pos}
theorem pa_nil : PA X [] tNil := fun _ _ _ _ H Q I h => Calls.spliced_nil ⟨[], H, I, .nil, h⟩
theorem pa_cons (ha : PE X e te) (hr : PA X es t) (hs : starEach (e :: es) X.env = (false, eval e X.env) :: starEach es X.env := by rfl) : PA X (e :: es) (tCons te t) := by
  intro pos pins s σ H Q I h
  rw [hs]
  show wpAny _ _ (spliced ((false, eval e X.env) :: backTo pos (starEach es X.env))) _ _ s
  refine Calls.spliced_cons (thn (ha pins s σ H _ I h) fun u s1 ⟨x, H1, I1, r1, q1⟩ => ?_)
  exact thn (hr pos pins s1 σ H1 _ I1 q1) fun us s2 ⟨xs, H2, I2, r2, q2⟩ => ⟨x :: xs, H2, I2, .cons r1 r2, q2⟩

/-- a tuple, a list of written items -/
def tTup (t : TA) : TE := fun σ H Q => t σ H fun xs H1 => xs.length ≤ sizeLine ∧ ∀ p, H1 p = none → Q (.ref p) (upd H1 p (.tup xs))
def tLst (t : TA) : TE := fun σ H Q => t σ H fun xs H1 => xs.length ≤ sizeLine ∧ ∀ p, H1 p = none → Q (.ref p) (upd H1 p (.lst xs))
theorem pe_tup {x1} (h : PA X es t) : PE X (.Tuple es x1 pos) (tTup t) := by
  intro pins s σ H Q I hq
  refine wpAny_Tuple_spliced (thn (h pos pins s σ H _ I hq) fun us s1 ⟨xs, H1, I1, r, z, q⟩ => ⟨by rw [← r.length]; exact z, ?_⟩)
  have hf : H1 s1.heap.objs.size = none := I1.hok.fresh (Nat.le_refl _)
  refine ⟨.ref s1.heap.objs.size, upd H1 s1.heap.objs.size (.tup xs), I1.laid (t' := s1.toks) (fun b u e => Heap.get?_push_of_some _ e) (Nat.le_refl _) ?_, rfl, q _ hf⟩
  exact ⟨z, us, r, ⟨_, Heap.get?_push_size _ rfl, rfl, _, rfl⟩⟩
theorem pe_lst (h : PA X es t) : PE X (.List es pos) (tLst t) := by
  intro pins s σ H Q I hq
  refine wpAny_List_spliced (thn (h pos pins s σ H _ I hq) fun us s1 ⟨xs, H1, I1, r, z, q⟩ => ⟨by rw [← r.length]; exact z, ?_⟩)
  have hf : H1 s1.heap.objs.size = none := I1.hok.fresh (Nat.le_refl _)
  refine ⟨.ref s1.heap.objs.size, upd H1 s1.heap.objs.size (.lst xs), I1.laid (t' := s1.toks) (fun b u e => Heap.get?_push_of_some _ e) (Nat.le_refl _) ?_, rfl, q _ hf⟩
  exact ⟨z, us, 0, r, Heap.get?_push_size _ rfl⟩
end

/-! ### what a def promises -/
/-- a def's promise: the bound arguments in the parameters' order, the heap, the wanted end, the wanted exception -/
abbrev Sp := List V → Hp → VK → XK → Prop
/-- how an exception lies behind a call (file 08 gives it): the callers' frames, abstract heap and state ahead of the call, the wish, the exception, the state -/
abbrev CXT := List Env → Hp → Shared → XK → Value → Shared → Prop

/-- the state at a call -/
structure Env0 (P : Program) (w : World) (K : PySem.W.Frag) (mg : Str → Option Value) (base : Heap) (A : Around) (outer : List Env) (s : Shared) (H : Hp) : Prop where
  frames : A.frames = some outer
  mod : Mod K mg base
  bs : ∀ b o, base.get? b = some o → s.heap.get? b = some o ∧ H b = none
  bsz : base.objs.size ≤ s.heap.objs.size
  funs : s.heap.FunFrames base outer
  frf : ∀ b ∈ frs outer, H b = none
  hok : HOk P w H s.heap
  bare : AllBare s.gens
/-- a call's end -/
def CE (outer : List Env) (P : Program) (w : World) (H : Hp) (s : Shared) (Q : VK) (u : Value) (s' : Shared) : Prop :=
  ∃ v H', s'.os = s.os ∧ AllBare s'.gens ∧ Un (frs outer) [] H H' s.heap s'.heap ∧ HOk P w H' s'.heap ∧ RelV v u ∧ Q v H'
def CR (CX : CXT) (outer : List Env) (P : Program) (w : World) (H : Hp) (s : Shared) (Q : VK) (E : XK) (r : Result) (s' : Shared) : Prop :=
  match r with
  | .ok (.ret u) => CE outer P w H s Q u s'
  | .ok _ => False
  | .error e => CX outer H s E e s'
structure FnOk (P : Program) (w : World) (K : PySem.W.Frag) (mg : Str → Option Value) (base : Heap) (CX : CXT) (k : Nat) (f : Addr) (fd : FuncData) (ps : List Str) (sp : Sp) : Prop where
  len : ∀ vs H Q E, sp vs H Q E → vs.length = ps.length
  run : ∀ (A : Around) (outer : List Env) (s : Shared) (H : Hp) (args : Args) (us : List Value) (vs : List V) (Q : VK) (E : XK), Room k A → Env0 P w K mg base A outer s H → BindsTo s fd args (ps.zip us) → Vals vs us → sp vs H Q E →
    codeAny (model P w) A (.call (.ref f) args) (CR CX outer P w H s Q E) s
theorem Env0.make {P : Program} {w : World} {K : PySem.W.Frag} {mg : Str → Option Value} {base : Heap} {A : Around} {outer : List Env} {s : Shared} {H : Hp} (e : Env0 P w K mg base A outer s H) (C : Addr) (us : List Value) (kw : List (Str × Value)) :
    Env0 P w K mg base (A.under (.builtin "type.__call__" ⟨.ref C :: us, kw⟩)) outer s H := ⟨by first | exact e.frames | (simpa [Around.under, Code.envs, Code.isFrame, pushEnvs] using e.frames), e.mod, e.bs, e.bsz, e.funs, e.frf, e.hok, e.bare⟩
section
variable {X : Cx} {pins : List (Addr × Obj)} {σ : St} {H : Hp} {s s' : Shared}
/-- from a body: what a callee wants -/
theorem Inv.env0 (I : Inv X pins σ H s) : Env0 X.prog X.w X.K X.mg X.base X.A X.stack s H :=
  ⟨I.ok.frames, I.ok.mod, I.bs, Nat.le_trans I.ok.bsz I.sz, I.stack, I.stkFree, I.hok, I.bare⟩
/-- behind a call -/
theorem Inv.after {Q : VK} {u : Value} (I : Inv X pins σ H s) (h : CE X.stack X.prog X.w H s Q u s') : EP X pins σ Q u s' := by
  obtain ⟨v, H', os, bare, un, hok, r, q⟩ := h
  obtain ⟨hh, g, d, t, os'⟩ := s'
  obtain rfl : os' = s.os := os
  exact ⟨v, H', I.call (h' := hh) (g' := g) (d' := d) (t' := t) (ch := []) un hok bare (fun b z => absurd z (by simp)), r, q⟩
end

/-! ### calls -/
/-- f(..): the written arguments, then the defaults dvs; E: what is wanted of an exception -/
def tCall (sp : Sp) (dvs : List V) (E : XK) (t : TA) : TE := fun σ H Q => t σ H fun vs H1 => sp (vs ++ dvs) H1 Q E
/-- C(..): a new instance and its dict, then __init__ -/
def tMake (C : Addr) (sp : Sp) (dvs : List V) (E : XK) (t : TA) : TE := fun σ H Q => t σ H fun vs H1 => ∀ x dx, H1 x = none → H1 dx = none → dx ≠ x →
  sp (.ref x :: (vs ++ dvs)) (upd (upd H1 dx (.own x)) x (.ins C dx [])) (fun v H2 => v = .non ∧ Q (.ref x) H2) E

/-- how the parameters are bound: us the positional arguments, kw the keywords' values by name, ds the defaults that fill up -/
def Binds (K : PySem.W.Frag) (fd : FuncData) (ps : List Str) (ds : List Value) : Prop :=
  ∀ (s : Shared) (us : List Value), K.In s.heap → (us ++ ds).length = ps.length → BindsTo s fd ⟨us, []⟩ (ps.zip (us ++ ds))
/-- every parameter is given -/
theorem Binds.all {K : PySem.W.Frag} {fd : FuncData} {ps : List Str} (h : ∀ us : List Value, us.length = ps.length → bindArgs fd ⟨us, []⟩ = pure (ps.zip us)) : Binds K fd ps [] := fun s us _ hl => by
  rw [List.append_nil] at hl ⊢
  exact .of_eq (h us hl)

/-- an exception of a callee reaches what this body wants of exceptions -/
def Passes (CX : CXT) (X : Cx) (E : XK) : Prop := ∀ (pins : List (Addr × Obj)) (σ : St) (H : Hp) (s : Shared) (e : Value) (s' : Shared), Inv X pins σ H s → CX X.stack H s E e s' → X.xe e s'

section
variable {X : Cx} {CX : CXT} {k : Nat} {f C : Addr} {fd : FuncData} {ps : List Str} {sp : Sp} {dvs : List V} {ds : List Value} {E : XK} {x m : Str} {p pos apos : Pos} {e o : Expr} {es : List Expr} {ta : TE} {t : TA}

/-- the callee runs -/
theorem run_fn {pins : List (Addr × Obj)} {σ : St} {H : Hp} {s : Shared} {Q : VK} {us : List Value} {vs : List V} (F : FnOk X.prog X.w X.K X.mg X.base CX k f fd ps sp) (hr : Room k X.A) (hb : Binds X.K fd ps ds) (hd : Vals dvs ds) (hx : Passes CX X E)
    (I : Inv X pins σ H s) (r : Vals vs us) (h : sp (vs ++ dvs) H Q E) : wpAny (model X.prog X.w) X.A (call (.ref f) us) (EP X pins σ Q) X.xe s := by
  have r2 : Vals (vs ++ dvs) (us ++ ds) := r.append hd
  have hl : (us ++ ds).length = ps.length := by rw [← r2.length]; exact F.len _ _ _ _ h
  refine wpAny_call (codeAny_mono (F.run X.A X.stack s H ⟨us, []⟩ (us ++ ds) (vs ++ dvs) Q E hr I.env0 (hb s us I.kIn hl) r2 h) fun r s' hq => ?_)
  cases r with
  | error e => exact hx pins σ H s e s' I hq
  | ok fl =>
    cases fl with
    | ret u => exact I.after hq
    | next => exact False.elim hq
    | brk => exact False.elim hq
    | cont => exact False.elim hq

theorem pe_call (F : FnOk X.prog X.w X.K X.mg X.base CX k f fd ps sp) (hr : Room k X.A) (hg : Gl X x) (hm : X.mg x = some (.ref f)) (hk : PySem.W.keepIn X.K (.ref f) = true) (hb : Binds X.K fd ps ds) (hd : Vals dvs ds) (hx : Passes CX X E)
    (ha : PA X (e :: es) t) (hdb : (x == ("__debug__" : Str)) = false := by decide) (he : starEach (e :: es) X.env = (false, eval e X.env) :: starEach es X.env := by rfl) (hpl : (backTo pos (starEach es X.env)).any (·.1) = false := by rfl) :
    PE X (.Call (.Name x p) (e :: es) [] pos) (tCall sp dvs E t) := by
  intro pins s σ H Q I h
  refine wpAny_Call_Name_kw (ld_glob I hg hm ?_ hdb)
  refine PySem.W.callWith_K (h₀ := X.base) I.ok.mod.kin hk (thn (ha pos pins s σ H _ I h) fun us s1 ⟨vs, H1, I1, r, q⟩ => ⟨I1.kIn, ?_⟩) he hpl
  exact run_fn F hr hb hd hx I1 r q
/-- what a class must have to be made -/
structure Mk (K : PySem.W.Frag) (C f : Addr) : Prop where
  makes : PySem.W.makesIn K C = true
  init : PySem.W.findIn K (.ref C) "__init__" = some (some (.ref f))
  fn : PySem.W.isFn K (.ref f) = true
  kp : PySem.W.keepIn K (.ref C) = true

theorem run_make {pins : List (Addr × Obj)} {σ : St} {H : Hp} {s : Shared} {Q : VK} {us : List Value} {vs : List V} (M : Mk X.K C f) (F : FnOk X.prog X.w X.K X.mg X.base CX k f fd ps sp) (hr : Room (k + 1) X.A) (hb : Binds X.K fd ps ds) (hd : Vals dvs ds)
    (hx : Passes CX X E) (I : Inv X pins σ H s) (r : Vals vs us)
    (h : ∀ x dx, H x = none → H dx = none → dx ≠ x → sp (.ref x :: (vs ++ dvs)) (upd (upd H dx (.own x)) x (.ins C dx [])) (fun v H2 => v = .non ∧ Q (.ref x) H2) E) :
    wpAny (model X.prog X.w) X.A (call (.ref C) us) (EP X pins σ Q) X.xe s := by
  have hq := h (s.heap.objs.size + 1) s.heap.objs.size (I.hok.fresh (Nat.le_succ _)) (I.hok.fresh (Nat.le_refl _)) (Nat.ne_of_lt (Nat.lt_succ_self _))
  have I2 := Inv.made (C := C) I
  have r2 : Vals (V.ref (s.heap.objs.size + 1) :: (vs ++ dvs)) (Value.ref (s.heap.objs.size + 1) :: (us ++ ds)) := .cons rfl (r.append hd)
  have hl : (Value.ref (s.heap.objs.size + 1) :: us ++ ds).length = ps.length := by
    have e := r2.length
    rw [F.len _ _ _ _ hq] at e
    exact e.symm
  refine wpAny_call (make_map (f := f) I.kIn M.makes M.init (beq_iff_eq.mp M.fn) (codeAny_mono (F.run _ X.stack _ _ ⟨Value.ref (s.heap.objs.size + 1) :: us, []⟩ (Value.ref (s.heap.objs.size + 1) :: (us ++ ds)) _ _ E (hr.make C us [])
    (I2.env0.make C us []) (hb _ (Value.ref (s.heap.objs.size + 1) :: us) I2.kIn hl) r2 hq) fun r s' hq' => ?_))
  cases r with
  | error e => exact hx pins σ _ _ e s' I2 hq'
  | ok fl =>
    cases fl with
    | ret u =>
      obtain ⟨v, H', I3, rv, ev, q3⟩ := I2.after hq'
      subst ev
      exact ⟨rv, ⟨V.ref (s.heap.objs.size + 1), H', I3, rfl, q3⟩⟩
    | next => exact False.elim hq'
    | brk => exact False.elim hq'
    | cont => exact False.elim hq'
theorem pe_make (M : Mk X.K C f) (F : FnOk X.prog X.w X.K X.mg X.base CX k f fd ps sp) (hr : Room (k + 1) X.A) (hg : Gl X x) (hm : X.mg x = some (.ref C)) (hb : Binds X.K fd ps ds) (hd : Vals dvs ds) (hx : Passes CX X E)
    (ha : PA X (e :: es) t) (hdb : (x == ("__debug__" : Str)) = false := by decide) (he : starEach (e :: es) X.env = (false, eval e X.env) :: starEach es X.env := by rfl) (hpl : (backTo pos (starEach es X.env)).any (·.1) = false := by rfl) :
    PE X (.Call (.Name x p) (e :: es) [] pos) (tMake C sp dvs E t) := by
  intro pins s σ H Q I h
  refine wpAny_Call_Name_kw (ld_glob I hg hm ?_ hdb)
  refine PySem.W.callWith_K (h₀ := X.base) I.ok.mod.kin M.kp (thn (ha pos pins s σ H _ I h) fun us s1 ⟨vs, H1, I1, r, q⟩ => ⟨I1.kIn, ?_⟩) he hpl
  exact run_make M F hr hb hd hx I1 r q
end

/-! ### keywords -/
section
variable {X : Cx} {CX : CXT} {k : Nat} {f C : Addr} {fd : FuncData} {ps ks : List Str} {sp : Sp} {E : XK} {x m : Str} {p pos apos kpos : Pos} {e o : Expr} {es : List Expr} {kws : List Keyword} {te ta : TE} {t tk : TA} {nm : Option Str}
variable {g : List Value → List Value → List Value} {gV : List V → List V → List V}
end

/-! ### a def's body keeps its promise -/
/-- names: the parameters first -/
structure FnScope (N P : List Str) (sc : Scope) : Prop where
  kind : sc.kind = .function
  co : sc.isCoroutine = false
  gen : sc.isGenerator = false
  nd : N.Nodup
  pre : N.take P.length = P
  par : ∀ x ∈ P, sc.names.lookup x = some .local ∨ sc.names.lookup x = some .cell
  nofree : ∀ y ∈ sc.names, y.2 ≠ .free

theorem bindL_out {kindOf : Str → Option NameKind} {x : Str} : ∀ {binds : List (Str × Value)} {m : Str → Option Value}, (∀ v, (x, v) ∉ binds) → bindL kindOf binds m x = m x
  | [], _, _ => rfl
  | (n, v) :: r, m, h => by
    unfold bindL
    rw [bindL_out fun w hw => h w (List.mem_cons_of_mem _ hw)]
    split
    · have : x ≠ n := by rintro rfl; exact h v List.mem_cons_self
      simp [this]
    · rfl
theorem bindC_out {kindOf : Str → Option NameKind} {x : Str} : ∀ {binds : List (Str × Value)} {m : Str → Option Value}, (∀ v, (x, v) ∉ binds) → bindC kindOf binds m x = m x
  | [], _, _ => rfl
  | (n, v) :: r, m, h => by
    unfold bindC
    rw [bindC_out fun w hw => h w (List.mem_cons_of_mem _ hw)]
    split
    · rfl
    · have : x ≠ n := by rintro rfl; exact h v List.mem_cons_self
      simp [this]
theorem bindL_get {kindOf : Str → Option NameKind} {x : Str} {v : Value} : ∀ {P : List Str} {vs : List Value} {i : Nat} {m : Str → Option Value}, P.Nodup → P[i]? = some x → vs[i]? = some v → kindOf x = some .local →
    bindL kindOf (P.zip vs) m x = some v
  | [], _, _, _, _, h, _, _ => by simp at h
  | _ :: _, [], _, _, _, _, h, _ => by simp at h
  | p :: P, w :: vs, 0, m, nd, h1, h2, hk => by
    simp at h1 h2; subst h1; subst h2
    show bindL kindOf ((p, w) :: P.zip vs) m p = _
    unfold bindL
    rw [bindL_out fun v hv => (List.nodup_cons.mp nd).1 (List.of_mem_zip hv).1, if_pos hk]
    simp
  | p :: P, w :: vs, i + 1, m, nd, h1, h2, hk => by
    show bindL kindOf ((p, w) :: P.zip vs) m x = _
    unfold bindL
    exact bindL_get (i := i) (List.nodup_cons.mp nd).2 (by simpa using h1) (by simpa using h2) hk
theorem bindC_get {kindOf : Str → Option NameKind} {x : Str} {v : Value} : ∀ {P : List Str} {vs : List Value} {i : Nat} {m : Str → Option Value}, P.Nodup → P[i]? = some x → vs[i]? = some v → kindOf x ≠ some .local →
    bindC kindOf (P.zip vs) m x = some v
  | [], _, _, _, _, h, _, _ => by simp at h
  | _ :: _, [], _, _, _, _, h, _ => by simp at h
  | p :: P, w :: vs, 0, m, nd, h1, h2, hk => by
    simp at h1 h2; subst h1; subst h2
    show bindC kindOf ((p, w) :: P.zip vs) m p = _
    unfold bindC
    rw [bindC_out fun v hv => (List.nodup_cons.mp nd).1 (List.of_mem_zip hv).1, if_neg hk]
    simp
  | p :: P, w :: vs, i + 1, m, nd, h1, h2, hk => by
    show bindC kindOf ((p, w) :: P.zip vs) m x = _
    unfold bindC
    exact bindC_get (i := i) (List.nodup_cons.mp nd).2 (by simpa using h1) (by simpa using h2) hk

/-- the names' values at the entry -/
def start (N : List Str) (vs : List V) : St := vs.map some ++ List.replicate (N.length - vs.length) none

/-- the context of a def's body, at its entry; an exception leaves the frame, then lies as CX says -/
def cxOf (CX : CXT) (P : Program) (w : World) (K : PySem.W.Frag) (mg : Str → Option Value) (base : Heap) (N : List Str) (qual : Str) (scope : Scope) (f : Addr) (cd : Value) (A : Around) (outer : List Env) (s : Shared) (H : Hp) (E : XK) : Cx where
  prog := P
  w := w
  K := K
  mg := mg
  base := base
  A := A.deeper (envOfC qual scope s.heap.objs.size f cd)
  N := N
  s₀ := s
  H₀ := H
  env := envOfC qual scope s.heap.objs.size f cd
  outer := outer
  stack := envOfC qual scope s.heap.objs.size f cd :: outer
  ex := []
  calm := true
  fn := fun _ => true
  pn := []
  xe := fun e s' => wpAny (model P w) (A.deeper (envOfC qual scope s.heap.objs.size f cd)) (leaving (envOfC qual scope s.heap.objs.size f cd) e) (fun _ s'' => CX outer H s E e s'') (fun e' s'' => CX outer H s E e' s'') s'

theorem cell_has {sc : Scope} {n : Nat} {x : Str} (h : sc.names.lookup x = some .cell) : ∃ c, (cellsFrom n sc.names []).lookup x = some c := by
  have q := PySem.W.cellsFrom_some sc.names n [] (.inl h)
  exact Option.isSome_iff_exists.mp q

theorem inv_start {CX : CXT} {P : Program} {w : World} {K : PySem.W.Frag} {mg : Str → Option Value} {base : Heap} {N ps : List Str} {qual : Str} {scope : Scope} {f : Addr} {cd : Value} {A : Around} {outer : List Env} {s s1 : Shared} {H : Hp} {E : XK} {us : List Value} {vs : List V}
    (S : FnScope N ps scope) (hd : A.handled = none) (e0 : Env0 P w K mg base A outer s H) (hl : vs.length = ps.length) (r : Vals vs us)
    (x : InCallC s s.heap.objs.size (bindL (envOfC qual scope s.heap.objs.size f cd).kindOf (ps.zip us) fun _ => none) (cellsFrom (s.heap.objs.size + 1) scope.names []) (bindC (envOfC qual scope s.heap.objs.size f cd).kindOf (ps.zip us) fun _ => none) s1) :
    Inv (cxOf CX P w K mg base N qual scope f cd A outer s H E) [] (start N vs) H s1 := by
  have hpl : ps.length ≤ N.length := by have := congrArg List.length S.pre; rw [List.length_take] at this; omega
  obtain ⟨h1, tk, rfl, hk⟩ := x.done
  have noA : ∀ b : Addr, b ∉ (cxOf CX P w K mg base N qual scope f cd A outer s H E).ex := fun b z => absurd (show b ∈ ([] : List Addr) from z) (by simp)
  refine ⟨⟨e0.mod, S.kind, rfl, rfl, Nat.le_refl _, fun y z c h1 h2 => ?_, fun y hy => ?_, fun y c _ h => ?_, fun _ => hd, Around.frames_deeper e0.frames, .inr ⟨rfl, rfl⟩, fun b z => absurd z (noA b), e0.bs, e0.bsz, fun b _ _ => noA b, fun b z => absurd z (noA b), e0.funs, e0.frf⟩,
    rfl, e0.bare, Un.kept hk, ⟨_, x.toInCall.ns, fun i y v h1 h2 h3 => ?_⟩, fun y c h => ⟨_, x.cell y c h⟩, e0.hok.fresh (Nat.le_refl _), fun y c h => ?_, fun p hp => absurd (show p ∈ ([] : List (Addr × Obj)) from hp) (by simp), e0.hok.kept hk, ?_⟩
  · exact name_of_addr x.apart (PySem.mem_of_lookup h1) (PySem.mem_of_lookup h2)
  · have hy : scope.names.lookup y = some .cell ∨ scope.names.lookup y = some .free := hy
    rcases hy with hy | hy
    · exact cell_has hy
    · exact absurd rfl (S.nofree _ (PySem.mem_of_lookup hy))
  · exact Nat.le_of_lt (x.above y c (PySem.mem_of_lookup h))
  · have hi : i < vs.length := by
      unfold start at h2
      by_cases hi : i < vs.length
      · exact hi
      · rw [List.getElem?_append_right (by simpa using hi)] at h2
        rw [List.getElem?_replicate] at h2
        split at h2 <;> cases h2
    have ha : vs[i]? = some v := by
      unfold start at h2
      rw [List.getElem?_append_left (by simpa using hi), List.getElem?_map] at h2
      cases e : vs[i]? with
      | none => rw [e] at h2; cases h2
      | some a => rw [e] at h2; cases h2; rfl
    obtain ⟨u, hu, rv⟩ := r.get ha
    have hp : ps[i]? = some y := by
      rw [← S.pre, List.getElem?_take_of_lt (by omega)]; exact h1
    have ndP : ps.Nodup := by rw [← S.pre]; exact S.nd.sublist (List.take_sublist _ _)
    refine ⟨u, rv, ?_⟩
    rcases S.par y (List.mem_of_getElem? hp) with k | k
    · exact .inl ⟨k, bindL_get ndP hp hu k⟩
    · obtain ⟨c, e⟩ := cell_has (n := s.heap.objs.size + 1) k
      refine .inr ⟨.inl k, c, e, ?_⟩
      have q := x.cell y c e
      rw [bindC_get ndP hp hu (by show scope.names.lookup y ≠ _; rw [k]; decide)] at q
      exact q
  · exact e0.hok.fresh (Nat.le_of_lt (x.above y c (PySem.mem_of_lookup h)))
  · unfold start
    show _ = N.length
    rw [List.length_append, List.length_map, List.length_replicate]
    omega

/-- THE RULE: a def (or a method) of the text, by its body. The body's reading t is chosen for each entry; it is run at the parameters' values -/
theorem fn_of {CX : CXT} {P : Program} {w : World} {K : PySem.W.Frag} {mg : Str → Option Value} {base : Heap} {k : Nat} {f : Addr} {name qual : Str} {params : Arguments} {body : List Stmt} {scope : Scope} {dV kV doc pm cdv ct oc : Value} {an od : Option Addr}
    {osl : Array (Option Value)} {N ps : List Str} {sp : Sp} (lk : K.lookup f = some ⟨oc, od, .func (PySem.W.fnOf name qual params body scope dV kV doc pm an cdv ct), osl⟩) (hcd : PySem.W.codeIn K cdv qual = true) (S : FnScope N ps scope)
    (len : ∀ vs H Q E, sp vs H Q E → vs.length = ps.length)
    (hbody : ∀ (A : Around) (outer : List Env) (s : Shared) (H : Hp) (vs : List V) (Q : VK) (E : XK), Room k (A.deeper (envOfC qual scope s.heap.objs.size f cdv)) → sp vs H Q E →
      ∃ t, PSs (cxOf CX P w K mg base N qual scope f cdv A outer s H E) body t ∧ t { nx := fun _ H' => Q .non H', rt := Q } (start N vs) H) :
    FnOk P w K mg base CX (k + 1) f (PySem.W.fnOf name qual params body scope dV kV doc pm an cdv ct) ps sp := by
  refine ⟨len, fun A outer s H args us vs Q E hr e0 hb r hsp => ?_⟩
  have hl := len _ _ _ _ hsp
  have KX : K.In s.heap := e0.mod.kin.keeps fun b o e => (e0.bs b o e).1
  have lim : s.heap.NoLimit := e0.mod.nolimit.keeps fun b o e => (e0.bs b o e).1
  have hkind : ∀ y ∈ ps.zip us, scope.names.lookup y.1 = some .local ∨ (scope.names.lookup y.1 = some .cell ∧ ((cellsFrom (s.heap.objs.size + 1) scope.names []).lookup y.1).isSome = true) := fun ⟨n, v⟩ hy => by
    rcases S.par n (List.of_mem_zip hy).1 with q | q
    · exact .inl q
    · exact .inr ⟨q, PySem.W.cellsFrom_some _ _ _ (.inl q)⟩
  refine codeAny_call_function hr.depth (KX _ _ lk) rfl S.co S.gen rfl (PySem.W.codeRec_of KX hcd) (hb _ _ _ _ ?_)
  refine wpAny_newFunctionEnv_cells S.kind hkind fun env he s1 x => ?_
  subst he
  refine ⟨lim.keeps x.toInCall.keep, codeAny_func ?_⟩
  obtain ⟨t, ht, hq⟩ := hbody A outer s H vs Q E (hr.deeper _) hsp
  have I : Inv (cxOf CX P w K mg base N qual scope f cdv A outer s H E) [] (start N vs) H s1 := inv_start S hr.hd e0 hl r x
  refine wpAny_mono (ht [] s1 (start N vs) H _ I hq) (fun fl s' hs => ?_) fun e s' hs => hs
  have fin : ∀ {σ' : St} {H' : Hp} {v : V} {u : Value}, Inv (cxOf CX P w K mg base N qual scope f cdv A outer s H E) [] σ' H' s' → RelV v u → Q v H' → CE outer P w H s Q u s' :=
    fun {σ' H' v u} J rv q => ⟨v, H', J.os, J.bare, J.base, J.hok, rv, q⟩
  cases fl with
  | ret u =>
    obtain ⟨v, σ', H', J, rv, q⟩ := hs
    exact fin J rv q
  | next =>
    obtain ⟨σ', H', J, q⟩ := hs
    exact fin (v := V.non) (u := Value.none) J rfl q
  | brk =>
    obtain ⟨_, _, _, q⟩ := hs
    exact False.elim q
  | cont =>
    obtain ⟨_, _, _, q⟩ := hs
    exact False.elim q
end L2

namespace L2
open PySem PySem.Spec PyProof.Rows
section
variable {X : Cx} {x : Str} {p pos : Pos} {e : Expr} {es : List Expr} {t : TA} {id T : String} {r : List V → Hp → VK → Prop}

def tCB (r : List V → Hp → VK → Prop) (t : TA) : TE := fun σ H Q => t σ H fun vs H1 => r vs H1 Q
/-- f(e, ..), f a built-in function -/
theorem pe_callB (hc : CallR X (.builtin id) r) (hg : Gl X x) (hm : X.mg x = none) (hv : bootBuiltins x = some (.builtin id)) (ha : PA X (e :: es) t) (hn : x ≠ "__name__" := by decide) (hdb : (x == ("__debug__" : Str)) = false := by decide)
    (he : starEach (e :: es) X.env = (false, eval e X.env) :: starEach es X.env := by rfl) (hpl : (backTo pos (starEach es X.env)).any (·.1) = false := by rfl) : PE X (.Call (.Name x p) (e :: es) [] pos) (tCB r t) := by
  intro pins s σ H Q I h
  refine wpAny_Call_Name_kw (ld_blt I hg hm hv ?_ hn hdb)
  exact PyProof.Rows.callWith_builtin1 (thn (ha pos pins s σ H _ I h) fun us s1 ⟨vs, H1, I1, r1, q1⟩ => hc pins s1 σ H1 vs us Q I1 r1 q1) he hpl
/-- T(e, ..), T a built-in type -/
theorem pe_callTy (hc : CallR X (.type T) r) (hg : Gl X x) (hm : X.mg x = none) (hv : bootBuiltins x = some (.type T)) (ha : PA X (e :: es) t) (hn : x ≠ "__name__" := by decide) (hdb : (x == ("__debug__" : Str)) = false := by decide)
    (he : starEach (e :: es) X.env = (false, eval e X.env) :: starEach es X.env := by rfl) (hpl : (backTo pos (starEach es X.env)).any (·.1) = false := by rfl) : PE X (.Call (.Name x p) (e :: es) [] pos) (tCB r t) := by
  intro pins s σ H Q I h
  refine wpAny_Call_Name_kw (ld_blt I hg hm hv ?_ hn hdb)
  exact PyProof.Rows.callWith_type1 (thn (ha pos pins s σ H _ I h) fun us s1 ⟨vs, H1, I1, r1, q1⟩ => hc pins s1 σ H1 vs us Q I1 r1 q1) he hpl
end
end L2

namespace HT
open PySem PyProof.Rows

section
open PySem.SeqAt
open PySem.AutoSeq1 (wpAny_loadPart')
open PySem.MeetsSeq PySem.MeetsSeq2 PySem.MeetsSeq3

end

section
variable {prog : Program} {w : World} {A : Around} {E : Value → Shared → Prop} {s : Shared}

/-! ### t[a:b], not the whole -/
/-- a slice's bound as a place among n (d where it is left out) -/
def sIx (n d : Nat) : Option Int → Nat
  | none => d
  | some v => if v < 0 then (v + (n : Int)).toNat else min v.toNat n
theorem sIx_nat (n d k : Nat) : sIx n d (some (k : Int)) = min k n := by
  show (if (k : Int) < 0 then ((k : Int) + (n : Int)).toNat else min (k : Int).toNat n) = min k n
  rw [if_neg (by omega), Int.toNat_natCast]
end
end HT

namespace L2
open PySem PySem.Spec PyProof.Rows

/-! ### the parts of a slice -/
abbrev TO := St → Hp → (Option Int → Hp → Prop) → Prop
/-- a slice's part (left out, or an int) -/
def PO (X : Cx) (e : Option Expr) (t : TO) : Prop :=
  ∀ (pins : List (Addr × Obj)) (s : Shared) (σ : St) (H : Hp) (Q : Option Int → Hp → Prop), Inv X pins σ H s → t σ H Q →
    wpAny (model X.prog X.w) X.A (evalPart e X.env) (fun u s' => ∃ o H', Inv X pins σ H' s' ∧ IsPart u o ∧ Q o H') X.xe s
def tNoPart : TO := fun _ H Q => Q none H
def tPart (t : TE) : TO := fun σ H Q => t σ H fun x H1 => ∃ i, x = .int i ∧ Q (some i) H1

section
variable {X : Cx} {e : Expr} {te : TE} {lo hi : Option Expr} {tl th : TO} {pos p2 : Pos}

theorem po_none : PO X none tNoPart := by
  intro pins s σ H Q I h
  rw [evalPart_none]
  exact wpAny_pure ⟨none, H, I, .none, h⟩
theorem po_some (h : PE X e te) : PO X (some e) (tPart te) := by
  intro pins s σ H Q I hw
  rw [evalPart_some]
  refine thn (h pins s σ H _ I hw) fun u s1 ⟨x, H1, I1, r1, q1⟩ => ?_
  obtain ⟨i, rfl, q⟩ := q1
  obtain ⟨t, rfl⟩ := r1
  exact ⟨some i, H1, I1, .int i t, q⟩

/-- what a slice of a value is, by values: the slice object stands at sl -/
def SlR (X : Cx) (r : V → Option Int → Option Int → Hp → VK → Prop) : Prop :=
  ∀ (pins : List (Addr × Obj)) (s : Shared) (σ : St) (H : Hp) (x : V) (v vl vu : Value) (lo hi : Option Int) (sl : Addr) (Q : VK), Inv X pins σ H s → RelV x v → s.heap.IsSliceOf sl vl vu .none → IsPart vl lo → IsPart vu hi → r x lo hi H Q →
    ∃ T id, typeLookup (.type T) "__getitem__" = pure (some (.builtin id)) ∧ s.TypeIs v T ∧ wpAny (model X.prog X.w) X.A (getItem v (.ref sl)) (EP X pins σ Q) X.xe s
def tSl (r : V → Option Int → Option Int → Hp → VK → Prop) (te : TE) (tl th : TO) : TE := fun σ H Q => te σ H fun x H1 => tl σ H1 fun l H2 => th σ H2 fun u H3 => r x l u H3 Q
/-- a[lo:hi], any a -/
theorem pe_slice {r : V → Option Int → Option Int → Hp → VK → Prop} (hr : SlR X r) (he : PE X e te) (hl : PO X lo tl) (hu : PO X hi th) : PE X (.Subscript e (.Slice lo hi none p2) pos) (tSl r te tl th) := by
  intro pins s σ H Q I h
  refine Subscript_ (thn (he pins s σ H _ I h) fun v s1 ⟨x, H1, I1, r1, q1⟩ => ?_)
  refine wpAny_Slice (thn (hl pins s1 σ H1 _ I1 q1) fun vl s2 ⟨l, H2, I2, pl, q2⟩ => thn (hu pins s2 σ H2 _ I2 q2) fun vu s3 ⟨u, H3, I3, pu, q3⟩ => ?_)
  rw [evalPart_none]
  refine wpAny_pure ?_
  have I4 : Inv X pins σ H3 { s3 with heap := s3.heap.push { cls := .type "slice", data := .fields #[vl, vu, .none] } } := I3.kept (t' := s3.toks) fun b ob q => Heap.get?_push_of_some _ q
  obtain ⟨T, id, hT, ht, hg⟩ := hr pins { s3 with heap := s3.heap.push { cls := .type "slice", data := .fields #[vl, vu, .none] } } σ H3 x v vl vu l u s3.heap.objs.size Q I4 r1 (Heap.IsSliceOf.new ..) pl pu q3
  show wpAny (model X.prog X.w) X.A (subscriptTail e (.Slice lo hi none p2) v (.ref s3.heap.objs.size)) (EP X pins σ Q) X.xe { s3 with heap := s3.heap.push { cls := .type "slice", data := .fields #[vl, vu, .none] } }
  exact tail_any (ops := [.ref s3.heap.objs.size, v]) ht hT hg (by with_unfolding_all rfl)

/-- the items of xs[lo:hi] -/
def cutV (xs : List V) (lo hi : Option Int) : List V := (xs.drop (HT.sIx xs.length 0 lo)).take (HT.sIx xs.length xs.length hi - HT.sIx xs.length 0 lo)
theorem cutV_length (xs : List V) (lo hi : Option Int) : (cutV xs lo hi).length ≤ xs.length := by
  unfold cutV
  rw [List.length_take, List.length_drop]
  omega
/-! ### t < u, t + u -/
end
end L2

namespace L2
open PySem PySem.Spec PyProof.Rows

/-! ### places -/
/-- the place that an index of any sign means -/
def ixN (n : Nat) (i : Int) : Option Nat := if 0 ≤ i then (if i < n then some i.toNat else none) else if -(n : Int) ≤ i then some (i + n).toNat else none
def atI {α : Type} (xs : List α) (i : Int) : Option α := (ixN xs.length i).bind fun j => xs[j]?
theorem ixN_seq {n : Nat} {i : Int} {j : Nat} (h : ixN n i = some j) : seqIndex? i n = some j ∧ j < n ∧ -(n : Int) ≤ i ∧ i < n := by
  unfold ixN at h
  by_cases h0 : 0 ≤ i
  · rw [if_pos h0] at h
    by_cases h1 : i < n
    · rw [if_pos h1] at h
      have e : i.toNat = j := Option.some.inj h
      exact ⟨by rw [seqIndex_of h0 h1, e], by omega, by omega, h1⟩
    · rw [if_neg h1] at h; cases h
  · rw [if_neg h0] at h
    by_cases h1 : -(n : Int) ≤ i
    · rw [if_pos h1] at h
      have e : (i + n).toNat = j := Option.some.inj h
      exact ⟨by rw [seqIndex_neg (by omega) h1, e], by omega, h1, by omega⟩
    · rw [if_neg h1] at h; cases h
theorem atI_get {α : Type} {xs : List α} {i : Int} {v : α} (h : atI xs i = some v) : ∃ j, seqIndex? i xs.length = some j ∧ xs[j]? = some v ∧ j < xs.length ∧ -(xs.length : Int) ≤ i ∧ i < xs.length := by
  unfold atI at h
  cases e : ixN xs.length i with
  | none => rw [e] at h; cases h
  | some j =>
    rw [e] at h
    obtain ⟨h1, h2, h3, h4⟩ := ixN_seq e
    exact ⟨j, h1, h, h2, h3, h4⟩
theorem atI_nat {α : Type} {xs : List α} {j : Nat} {v : α} (h : xs[j]? = some v) : atI xs (j : Int) = some v := by
  have hj : j < xs.length := (List.getElem?_eq_some_iff.mp h).1
  have e : ixN xs.length (j : Int) = some j := by
    unfold ixN
    rw [if_pos (by omega), if_pos (by omega)]; simp
  unfold atI; rw [e]; exact h
/-! ### what may be subscripted -/
/-- what stands as an index of a plain subscript -/
def PlainIx (b : Expr) : Prop := ∀ o i, subscripted b false o i = operate [o, i] (getItem o i)
/-- a subscript by values -/
def IxR (X : Cx) (r : R2) : Prop :=
  ∀ (value slice : Expr) (pins : List (Addr × Obj)) (s : Shared) (σ : St) (H : Hp) (x y : V) (v u : Value) (Q : VK), Inv X pins σ H s → RelV x v → RelV y u → r x y H Q →
    subscripted slice false v u = operate [v, u] (getItem v u) → wpAny (model X.prog X.w) X.A (subscriptTail value slice v u) (EP X pins σ Q) X.xe s
/-- a call of a builtin's method by values: the receiver, the arguments -/
def MtR (X : Cx) (id : String) (r : V → List V → Hp → VK → Prop) : Prop :=
  ∀ (pins : List (Addr × Obj)) (s : Shared) (σ : St) (H : Hp) (x : V) (xs : List V) (v : Value) (us : List Value) (Q : VK), Inv X pins σ H s → RelV x v → Vals xs us → r x xs H Q →
    wpAny (model X.prog X.w) X.A (call (.builtin id) (v :: us)) (EP X pins σ Q) X.xe s
section
variable {X : Cx} {a b : Expr} {ta tb : TE} {pos : Pos}
/-- a[b] -/
theorem pe_ix {r : R2} (hr : IxR X r) (ha : PE X a ta) (hb : PE X b tb) (hs : PlainIx b) : PE X (.Subscript a b pos) (tOp r ta tb) := by
  intro pins s σ H Q I h
  exact Subscript_ (binT ha hb I h fun v u s2 x y H2 I2 rx ry q => hr a b pins s2 σ H2 x y v u Q I2 rx ry q (hs _ _))

def rIxL (K : PySem.W.Frag) : R2 := fun x y H Q => ∃ p xs i v, x = .ref p ∧ y = .int i ∧ SqL K H p xs ∧ atI xs i = some v ∧ Q v H
def rIxT (K : PySem.W.Frag) : R2 := fun x y H Q => ∃ p xs i v, x = .ref p ∧ y = .int i ∧ SqT K H p xs ∧ atI xs i = some v ∧ Q v H
theorem ix_list : IxR X (rIxL X.K) := by
  intro value slice pins s σ H x y v u Q I rx ry h hs
  obtain ⟨p, xs, i, z, rfl, rfl, hq, he, q⟩ := h
  cases rx
  obtain ⟨t, rfl⟩ := ry
  obtain ⟨its, r, pl, hz⟩ := I.list hq
  obtain ⟨j, h1, h2, h3, h4, h5⟩ := atI_get he
  obtain ⟨w, ew, rw'⟩ := r.get h2
  have hl := r.length
  have hn := line63
  have fin : EP X pins σ Q w s := ⟨z, H, I, rw', q⟩
  by_cases h0 : 0 ≤ i
  · have hj : i.toNat = j := by
      rw [seqIndex_of h0 h5] at h1
      exact Option.some.inj h1
    exact item_listR pl.isList h0 (by omega) (by rw [hj]; simpa using ew) fin hs
  · have hj : (i + (its.toArray.size : Int)).toNat = j := by
      rw [seqIndex_neg (by omega) h4] at h1
      rw [List.size_toArray, ← hl]
      exact Option.some.inj h1
    exact subscriptTail_builtinR (x := w) pl.isList.typeIs slot_list_getitem.lookup
      (wpAny_getItem_list_neg (Q := fun r s' => r = w ∧ EP X pins σ Q r s') pl.isList (by omega) (by rw [List.size_toArray] <;> omega) (by omega) (by rw [hj]; simpa using ew) ⟨rfl, fin⟩) hs
theorem ix_tup : IxR X (rIxT X.K) := by
  intro value slice pins s σ H x y v u Q I rx ry h hs
  obtain ⟨p, xs, i, z, rfl, rfl, hq, he, q⟩ := h
  cases rx
  obtain ⟨t, rfl⟩ := ry
  obtain ⟨its, r, pl, hz⟩ := I.tuple hq
  obtain ⟨j, h1, h2, h3, h4, h5⟩ := atI_get he
  obtain ⟨w, ew, rw'⟩ := r.get h2
  have hl := r.length
  have hn := line63
  have fin : EP X pins σ Q w s := ⟨z, H, I, rw', q⟩
  exact subscriptTail_builtinR (x := w) pl.typeIs slot_tuple_getitem.lookup
    (getItem_tuple (j := j) (Q := fun r s' => r = w ∧ EP X pins σ Q r s') pl (by omega) (by omega) (by rw [List.size_toArray, ← hl]; exact h1) (by simpa using ew) ⟨rfl, fin⟩) hs
/-! ### xs[i] = v, any sign -/
/-- the list's object behind a store -/
theorem mapSeq_set (its : List Value) (n j : Nat) (u : Value) : Obj.mapSeq (·.setIfInBounds j u) { cls := .type "list", data := .seq its.toArray n } = { cls := .type "list", data := .seq (its.set j u).toArray n } := by
  simp [Obj.mapSeq]
theorem Inv.lst {pins : List (Addr × Obj)} {σ : St} {H : Hp} {s : Shared} {p : Addr} {xs : List V} (I : Inv X pins σ H s) (h : H p = some (.lst xs)) :
    ∃ (its : List Value) (n : Nat), Vals xs its ∧ s.heap.get? p = some { cls := .type "list", data := .seq its.toArray n } ∧ xs.length ≤ sizeLine := by
  obtain ⟨z, its, n, r, e⟩ := I.hok p _ h
  exact ⟨its, n, r, e, z⟩
/-- the list at p is written by an update of its object -/
theorem Inv.lstUpd {pins : List (Addr × Obj)} {σ : St} {H : Hp} {s : Shared} {p : Addr} {xs ys : List V} {its its' : List Value} {n n' : Nat} {f : Obj → Obj} (I : Inv X pins σ H s) (h : H p = some (.lst xs))
    (ho : s.heap.get? p = some { cls := .type "list", data := .seq its.toArray n }) (hf : f { cls := .type "list", data := .seq its.toArray n } = { cls := .type "list", data := .seq its'.toArray n' }) (r : Vals ys its') (hz : ys.length ≤ sizeLine) (t : Nat) :
    Inv X pins σ (upd H p (.lst ys)) { s with heap := s.heap.update p f, toks := t } := by
  have e : (s.heap.update p f).get? p = some { cls := .type "list", data := .seq its'.toArray n' } := by
    rw [Heap.get?_update_self f ho (by rw [hf] <;> rfl), hf]
  refine I.write (x := p) (e := p) (by rw [h]; trivial) (.inl rfl) (fun b u hb q => (Heap.get?_update_other _ _ (Ne.symm hb)).trans q) ⟨_, e⟩ ?_
  exact ⟨hz, its', n', r, e⟩
def rSetL : V → V → V → Hp → (Hp → Prop) → Prop := fun o i v H Q => ∃ p xs k j, o = .ref p ∧ i = .int k ∧ H p = some (.lst xs) ∧ ixN xs.length k = some j ∧ Q (upd H p (.lst (xs.set j v)))
theorem set_list : PSet X rSetL := by
  intro pins s σ H o i v ov iv u Q I ro ri rv h
  obtain ⟨p, xs, k, j, rfl, rfl, hp, hj, q⟩ := h
  cases ro
  obtain ⟨t, rfl⟩ := ri
  obtain ⟨its, n, r, ho, hz⟩ := I.lst hp
  obtain ⟨h1, h2, h3, h4⟩ := ixN_seq hj
  have hl := r.length
  have hn := line63
  have I' : Inv X pins σ (upd H p (.lst (xs.set j v))) { s with heap := s.heap.update p (Obj.mapSeq (·.setIfInBounds j u)) } :=
    I.lstUpd hp ho (mapSeq_set its n j u) (r.set rv j) (by rw [List.length_set]; exact hz) s.toks
  by_cases h0 : 0 ≤ k
  · have hk : k.toNat = j := by
      rw [seqIndex_of h0 h4] at h1
      exact Option.some.inj h1
    exact PySem.W.ki_setAt ho h0 (by omega) (by rw [List.size_toArray, ← hl]; exact h4) (by rw [hk]; exact ⟨_, I', q⟩)
  · have hk : (k + (its.toArray.size : Int)).toNat = j := by
      rw [seqIndex_neg (by omega) h3] at h1
      rw [List.size_toArray, ← hl]
      exact Option.some.inj h1
    exact PySem.W.ki_setBack ho (by omega) (by rw [List.size_toArray, ← hl]; exact h3) (by omega) (by rw [hk]; exact ⟨_, I', q⟩)

/-! ### slices -/
theorem slice_bounds (lo hi : Option Int) (n : Nat) : (sliceBounds lo hi none n).1 = ((HT.sIx n 0 lo : Nat) : Int) ∧ (sliceBounds lo hi none n).2.1 = ((HT.sIx n n hi : Nat) : Int) ∧ (sliceBounds lo hi none n).2.2 = 1 := by
  refine ⟨?_, ?_, rfl⟩
  · cases lo with
    | none => simp [sliceBounds, HT.sIx]
    | some i =>
      simp only [sliceBounds, HT.sIx, Option.getD_none, show (1 : Int) > 0 by decide, if_true]
      by_cases h : i < 0
      · simp only [h, if_true] <;> omega
      · simp only [h, if_false] <;> omega
  · cases hi with
    | none => simp [sliceBounds, HT.sIx]
    | some i =>
      simp only [sliceBounds, HT.sIx, Option.getD_none, show (1 : Int) > 0 by decide, if_true]
      by_cases h : i < 0
      · simp only [h, if_true] <;> omega
      · simp only [h, if_false] <;> omega
theorem slicePick_cut (its : List Value) (lo hi : Option Int) : slicePick its.toArray lo hi none = ((its.drop (HT.sIx its.length 0 lo)).take (HT.sIx its.length its.length hi - HT.sIx its.length 0 lo)).toArray := by
  obtain ⟨h1, h2, h3⟩ := slice_bounds lo hi its.toArray.size
  unfold slicePick
  rw [h1, h2, h3]
  simp only [sliceRange_one, pick_run, List.size_toArray] <;> rfl
/-- xs[lo:hi] of a list: a new list -/
def rSlL (K : PySem.W.Frag) : V → Option Int → Option Int → Hp → VK → Prop := fun x lo hi H Q => ∃ a xs, x = .ref a ∧ SqL K H a xs ∧ ∀ p, H p = none → Q (.ref p) (upd H p (.lst (cutV xs lo hi)))
theorem sl_list : SlR X (rSlL X.K) := by
  intro pins s σ H x v vl vu lo hi sl Q I rx hs pl pu h
  obtain ⟨a, xs, rfl, hx, q⟩ := h
  cases rx
  obtain ⟨its, r, ht, hz⟩ := I.list hx
  have hlen := r.length
  refine ⟨"list", _, slot_list_getitem.lookup, ht.isList.typeIs, ?_⟩
  refine wpAny_getItem_list_slice ht.isList hs pl pu .none (by simp) ?_ (by rw [List.size_toArray] <;> omega)
  rw [slicePick_cut, ← hlen]
  refine ⟨.ref s.heap.objs.size, _, I.laid (t' := s.toks) (o := .lst (cutV xs lo hi)) (fun b ob q => Heap.get?_push_of_some _ q) (Nat.le_refl _) ?_, rfl, q _ (I.hok.fresh (Nat.le_refl _))⟩
  exact ⟨Nat.le_trans (cutV_length xs lo hi) hz, _, 0, (r.drop (HT.sIx xs.length 0 lo)).take (HT.sIx xs.length xs.length hi - HT.sIx xs.length 0 lo), Heap.get?_push_size _ rfl⟩

/-! ### in, not in: flat items -/
def flatV : V → Bool
  | .non => true
  | .bl _ => true
  | .int _ => true
  | .str _ => true
  | _ => false
/-- == of flat values -/
def eqV : V → V → Bool
  | .non, .non => true
  | .bl a, .bl b => a == b
  | .bl a, .int b => (if a then 1 else 0) == b
  | .int a, .bl b => a == (if b then 1 else 0)
  | .int a, .int b => a == b
  | .str a, .str b => a == b
  | _, _ => false
theorem eqAt_V {A : Around} {s : Shared} {y x : V} {u v : Value} (ry : RelV y u) (rx : RelV x v) (fy : flatV y = true) (fx : flatV x = true) : SeqAt.EqAt A s u v (eqV y x) := by
  cases y with
  | non =>
    cases ry
    cases x with
    | non => cases rx; exact SeqAt.EqAt.same _
    | bl b => cases rx; exact SeqAt.EqAt.none_bool b
    | int b => obtain ⟨t, rfl⟩ := rx; exact SeqAt.EqAt.none_int b t
    | str b => obtain ⟨t, rfl⟩ := rx; exact SeqAt.EqAt.none_str b t
    | _ => exact absurd (show false = true from fx) Bool.false_ne_true
  | bl a =>
    cases ry
    cases x with
    | non => cases rx; exact SeqAt.EqAt.bool_none a
    | bl b => cases rx; exact SeqAt.EqAt.bool_bool a b
    | int b => obtain ⟨t, rfl⟩ := rx; exact SeqAt.EqAt.bool_int a b t
    | str b => obtain ⟨t, rfl⟩ := rx; exact SeqAt.EqAt.bool_str a b t
    | _ => exact absurd (show false = true from fx) Bool.false_ne_true
  | int a =>
    obtain ⟨t', rfl⟩ := ry
    cases x with
    | non => cases rx; exact SeqAt.EqAt.int_none a t'
    | bl b => cases rx; exact SeqAt.EqAt.int_bool a t' b
    | int b => obtain ⟨t, rfl⟩ := rx; exact SeqAt.EqAt.int_int a t' b t
    | str b => obtain ⟨t, rfl⟩ := rx; exact SeqAt.EqAt.int_str a t' b t
    | _ => exact absurd (show false = true from fx) Bool.false_ne_true
  | str a =>
    obtain ⟨t', rfl⟩ := ry
    cases x with
    | non => cases rx; exact SeqAt.EqAt.str_none a t'
    | bl b => cases rx; exact SeqAt.EqAt.str_bool a t' b
    | int b => obtain ⟨t, rfl⟩ := rx; exact SeqAt.EqAt.str_int a t' b t
    | str b => obtain ⟨t, rfl⟩ := rx; exact SeqAt.EqAt.str_str a t' b t
    | _ => exact absurd (show false = true from fx) Bool.false_ne_true
  | _ => exact absurd (show false = true from fy) Bool.false_ne_true
/-- the items' answers, read off the values (a value's own answer does not lean on its token) -/
def eqU (x : V) (u : Value) : Bool := match u with
  | .none => eqV .non x
  | .bool b => eqV (.bl b) x
  | .int i _ => eqV (.int i) x
  | .str z _ => eqV (.str z) x
  | _ => false
theorem eqU_of {x y : V} {u : Value} (r : RelV y u) (f : flatV y = true) : eqU x u = eqV y x := by
  cases y with
  | non => cases r; rfl
  | bl b => cases r; rfl
  | int i => obtain ⟨t, rfl⟩ := r; rfl
  | str z => obtain ⟨t, rfl⟩ := r; rfl
  | _ => exact absurd (show false = true from f) Bool.false_ne_true
theorem any_eqU {x : V} : ∀ {xs : List V} {us : List Value}, Vals xs us → xs.all flatV = true → us.any (eqU x) = xs.any fun y => eqV y x
  | _, _, .nil, _ => rfl
  | y :: xs, u :: us, .cons r t, f => by
    rw [List.all_cons, Bool.and_eq_true] at f
    rw [List.any_cons, List.any_cons, eqU_of r f.1, any_eqU t f.2]
theorem mem_eqAt {A : Around} {s : Shared} {x : V} {v : Value} (rx : RelV x v) (fx : flatV x = true) : ∀ {xs : List V} {us : List Value}, Vals xs us → xs.all flatV = true → ∀ u ∈ us, SeqAt.EqAt A s u v (eqU x u)
  | _, _, .nil, _ => fun u hu => by cases hu
  | y :: xs, u :: us, .cons r t, f => fun u' hu => by
    rw [List.all_cons, Bool.and_eq_true] at f
    rcases List.mem_cons.mp hu with rfl | hu
    · rw [eqU_of r f.1]; exact eqAt_V r rx f.1 fx
    · exact mem_eqAt rx fx t f.2 u' hu
def inV (x : V) (xs : List V) : Bool := xs.any fun y => eqV y x
/-- x in a list or tuple of flat items -/
def rIn (K : PySem.W.Frag) (neg : Bool) : R2 := fun x y H Q => ∃ p xs, y = .ref p ∧ (SqL K H p xs ∨ SqT K H p xs) ∧ flatV x = true ∧ xs.all flatV = true ∧ Q (.bl (if neg then !inV x xs else inV x xs)) H
theorem op_in_seq : OpR X (compareOp .In) (rIn X.K false) := by
  intro pins s σ H x y v u Q I rx ry h
  obtain ⟨p, xs, rfl, hq, fx, fs, q⟩ := h
  cases ry
  rcases hq with hq | hq
  · obtain ⟨its, r, pl, hz⟩ := I.list hq
    refine SeqAt.in_listAt (eqU x) pl.isList (fun w hw => mem_eqAt rx fx r fs w (by simpa using hw)) ⟨.bl _, H, I, rfl, ?_⟩
    rw [show its.toArray.any (eqU x) = its.any (eqU x) by simp, any_eqU r fs]
    exact q
  · obtain ⟨its, r, pl, hz⟩ := I.tuple hq
    refine SeqAt.in_tupleAt (eqU x) pl (fun w hw => mem_eqAt rx fx r fs w (by simpa using hw)) ⟨.bl _, H, I, rfl, ?_⟩
    rw [show its.toArray.any (eqU x) = its.any (eqU x) by simp, any_eqU r fs]
    exact q
theorem op_notIn_seq : OpR X (compareOp .NotIn) (rIn X.K true) := by
  intro pins s σ H x y v u Q I rx ry h
  obtain ⟨p, xs, rfl, hq, fx, fs, q⟩ := h
  cases ry
  rcases hq with hq | hq
  · obtain ⟨its, r, pl, hz⟩ := I.list hq
    refine SeqAt.notIn_listAt (eqU x) pl.isList (fun w hw => mem_eqAt rx fx r fs w (by simpa using hw)) ⟨.bl _, H, I, rfl, ?_⟩
    rw [show its.toArray.any (eqU x) = its.any (eqU x) by simp, any_eqU r fs]
    exact q
  · obtain ⟨its, r, pl, hz⟩ := I.tuple hq
    refine SeqAt.notIn_tupleAt (eqU x) pl (fun w hw => mem_eqAt rx fx r fs w (by simpa using hw)) ⟨.bl _, H, I, rfl, ?_⟩
    rw [show its.toArray.any (eqU x) = its.any (eqU x) by simp, any_eqU r fs]
    exact q
/-! ### len, list(x), tuple(x) of any list or tuple that is read -/
theorem call_len_seq : CallR X (.builtin "len") (fun xs H Q => ∃ p ys, xs = [.ref p] ∧ (SqL X.K H p ys ∨ SqT X.K H p ys) ∧ Q (.int ys.length) H) := by
  intro pins s σ H xs us Q I r h
  obtain ⟨p, ys, rfl, hq, q⟩ := h
  obtain ⟨u, rfl, rx⟩ := vals1 r
  cases rx
  have hn := line63
  rcases hq with hq | hq
  · obtain ⟨its, r', pl, hz⟩ := I.list hq
    have hlen := r'.length
    exact Calls.call_len_list pl.isList (by simp only [List.size_toArray] <;> omega) ⟨.int ys.length, H, I.tok _, ⟨s.toks + 1, by rw [List.size_toArray, hlen]⟩, q⟩
  · obtain ⟨its, r', pl, hz⟩ := I.tuple hq
    have hlen := r'.length
    exact len_tuple pl (by simp only [List.size_toArray] <;> omega) ⟨.int ys.length, H, I.tok _, ⟨s.toks + 1, by rw [List.size_toArray, hlen]⟩, q⟩
theorem call_list_of : CallR X (.type "list") (fun xs H Q => ∃ p ys, xs = [.ref p] ∧ (SqL X.K H p ys ∨ SqT X.K H p ys) ∧ ∀ l, H l = none → Q (.ref l) (upd H l (.lst ys))) := by
  intro pins s σ H xs us Q I r h
  obtain ⟨p, ys, rfl, hq, q⟩ := h
  obtain ⟨u, rfl, rx⟩ := vals1 r
  cases rx
  have fin : ∀ (its : List Value), Vals ys its → ys.length ≤ sizeLine → ∀ (h' : Heap) (c' : Nat), (∀ b o', s.heap.get? b = some o' → h'.get? b = some o') →
      h'.get? s.heap.objs.size = some { cls := .type "list", dict := none, data := .seq its.toArray c', slots := #[] } → EP X pins σ Q (.ref s.heap.objs.size) { s with heap := h' } := fun its r' hz h' c' kp e =>
    ⟨.ref s.heap.objs.size, _, I.laid (t' := s.toks) kp (Nat.le_refl _) (show ObjOk X.prog X.w _ h' _ (.lst ys) from ⟨hz, its, c', r', e⟩), rfl, q _ (I.hok.fresh (Nat.le_refl _))⟩
  rcases hq with hq | hq
  · obtain ⟨its, r', pl, hz⟩ := I.list hq
    have hlen := r'.length
    obtain ⟨o, ho, hc, n, hd⟩ := pl.isList
    exact call_list_seq p (.inl rfl) ho hc hd (fun h' c' kp e => fin its r' hz h' c' kp e) (by simp only [List.size_toArray] <;> omega)
  · obtain ⟨its, r', pl, hz⟩ := I.tuple hq
    have hlen := r'.length
    obtain ⟨o, ho, hc, n, hd⟩ := pl
    exact call_list_seq p (.inr rfl) ho hc hd (fun h' c' kp e => fin its r' hz h' c' kp e) (by simp only [List.size_toArray] <;> omega)
/-! ### the call of a builtin's method: o.m(..) -/
/-- the value is of that builtin type -/
def tyV (K : PySem.W.Frag) (T : String) (x : V) (H : Hp) : Prop := match x with
  | .str _ => T = "str"
  | .int _ => T = "int"
  | .ref p => (T = "list" ∧ ∃ xs, SqL K H p xs) ∨ (T = "tuple" ∧ ∃ o, K.lookup p = some o ∧ o.cls = .type "tuple" ∧ o.dict = none) ∨
      (T = "dict" ∧ ((∃ kvs, H p = some (.dK kvs)) ∨ ∃ kvs, H p = some (.dT kvs))) ∨ (T = "set" ∧ ∃ S n, H p = some (.set S n))
  | _ => False
theorem tyV_is {pins : List (Addr × Obj)} {σ : St} {H : Hp} {s : Shared} {T : String} {x : V} {v : Value} (I : Inv X pins σ H s) (r : RelV x v) (ty : tyV X.K T x H) :
    s.TypeIs v T ∧ ∀ a, v = .ref a → ∃ ob, s.heap.get? a = some ob ∧ ob.dict = none := by
  cases x with
  | str z =>
    obtain ⟨t, rfl⟩ := r
    cases (show T = "str" from ty)
    exact ⟨typeIs_str s z t, fun _ e => nomatch e⟩
  | int i =>
    obtain ⟨t, rfl⟩ := r
    cases (show T = "int" from ty)
    exact ⟨typeIs_int s i t, fun _ e => nomatch e⟩
  | ref p =>
    cases r
    rcases ty with ⟨rfl, xs, hq⟩ | ⟨rfl, o, hk, hc, hd⟩ | ⟨rfl, hk⟩ | ⟨rfl, S, n, hk⟩
    · obtain ⟨its, _, pl, _⟩ := I.list hq
      refine ⟨pl.isList.typeIs, fun a e => ?_⟩
      cases e
      obtain ⟨o, n, e, c, hd, _⟩ := pl
      exact ⟨o, e, hd⟩
    · refine ⟨⟨o, I.kIn p o hk, hc⟩, fun a e => ?_⟩
      cases e
      exact ⟨o, I.kIn _ o hk, hd⟩
    · have z : ∃ o, s.heap.get? p = some o ∧ o.ExactDict := by
        rcases hk with ⟨kvs, hk⟩ | ⟨kvs, hk⟩
        · obtain ⟨_, _, _, _, o, _, _, e, ex, _⟩ := I.hok p _ hk
          exact ⟨o, e, ex⟩
        · obtain ⟨_, _, _, _, o, _, _, e, ex, _⟩ := I.hok p _ hk
          exact ⟨o, e, ex⟩
      obtain ⟨o, e, ex⟩ := z
      refine ⟨⟨o, e, ex.1⟩, fun a e2 => ?_⟩
      cases e2
      exact ⟨o, e, ex.2.1⟩
    · obtain ⟨o, _, _, _, e, ex, _⟩ := I.hok p _ hk
      refine ⟨⟨o, e, ex.1⟩, fun a e2 => ?_⟩
      cases e2
      exact ⟨o, e, ex.2.1⟩
  | _ => exact False.elim ty
def tBM (K : PySem.W.Frag) (T : String) (r : V → List V → Hp → VK → Prop) (to : TE) (t : TA) : TE := fun σ H Q => to σ H fun x H1 => tyV K T x H1 ∧ t σ H1 fun xs H2 => r x xs H2 Q
variable {o e : Expr} {es : List Expr} {to : TE} {t : TA} {name : Str} {apos cpos : Pos} {T id : String} {r : V → List V → Hp → VK → Prop}
theorem pe_bm (pa : PlainAttrs T) (slot : Slot T name id) (hty : typeOf (.builtin id) = pure (.type "method_descriptor")) (hm : MtR X id r) (ho : PE X o to) (ha : PA X (e :: es) t)
    (hbase : attributeBase o name X.env (eval o X.env) = eval o X.env := by rfl)
    (hfew : ((backTo cpos (starEach (e :: es) X.env)).all (fun x => !x.1) && (backToKw cpos (keywordEach [] X.env)).all (fun x => x.1.isSome)
      && decide ((e :: es).length + ([] : List Keyword).length + (if ([] : List Keyword).isEmpty then 0 else 1) < 30)) = true := by rfl)
    (hline : (apos.endLine == cpos.line) = true := by rfl) (hs : starEach (e :: es) X.env = (false, eval e X.env) :: starEach es X.env := by rfl) (hplain : (backTo cpos (starEach es X.env)).any (·.1) = false := by rfl) :
    PE X (.Call (.Attribute o name apos) (e :: es) [] cpos) (tBM X.K T r to t) := by
  intro pins s σ H Q I h
  refine wpAny_Call_method_late hbase hfew hline rfl (thn (ho pins s σ H _ I h) fun v s1 ⟨x, H1, I1, r1, ty, q1⟩ => ?_)
  obtain ⟨h1, h2⟩ := tyV_is I1 r1 ty
  refine ⟨T, id, pa, slot, hty, h1, h2, ?_⟩
  have hA := ha cpos pins s1 σ H1 _ I1 q1
  rw [hs] at hA ⊢
  refine Calls.callWith_builtin (by show (false || (backTo cpos (starEach es X.env)).any (·.1)) = false; rw [hplain] <;> rfl) (Calls.evalArgs_plain ?_)
  exact thn hA fun us s2 ⟨vs, H2, I2, r2, q2⟩ => hm pins s2 σ H2 x vs v us Q I2 r1 r2 q2
/- xs.append(e), list.index on a module's tuple .. are MtR facts of 06m -/
end
end L2

namespace L2
open PySem PySem.Spec PyProof.Rows

def MtM (X : Cx) (id : String) (r : V → List V → Hp → VK → Prop) : Prop :=
  ∀ (pins : List (Addr × Obj)) (s : Shared) (σ : St) (H : Hp) (x : V) (xs : List V) (v : Value) (us : List Value) (Q : VK), Inv X pins σ H s → RelV x v → Vals xs us → r x xs H Q →
    wpAny (model X.prog X.w) X.A (call (.builtin id) (v :: us)) (EP X pins σ Q) X.xe s

/-! ### lists of values -/
theorem Vals.one : ∀ {x : V} {us : List Value}, Vals [x] us → ∃ u, us = [u] ∧ RelV x u
  | _, _, .cons r .nil => ⟨_, rfl, r⟩
theorem Vals.rep {xs : List V} {us : List Value} (h : Vals xs us) : ∀ k : Nat, Vals (List.replicate k xs).flatten (List.replicate k us).flatten
  | 0 => .nil
  | k + 1 => by
    rw [List.replicate_succ, List.replicate_succ, List.flatten_cons, List.flatten_cons]
    exact Vals.append h (Vals.rep h k)
theorem foldl_rep (its : List Value) : ∀ (k : Nat) (acc : List Value),
    List.foldl (fun x1 x2 => x1 ++ x2) acc.toArray (List.replicate k its.toArray) = (acc ++ (List.replicate k its).flatten).toArray
  | 0, acc => by simp
  | k + 1, acc => by
    have e : acc.toArray ++ its.toArray = (acc ++ its).toArray := by simp
    have e2 : (acc ++ its) ++ (List.replicate k its).flatten = acc ++ (List.replicate (k + 1) its).flatten := by
      rw [List.replicate_succ, List.flatten_cons, List.append_assoc]
    rw [← e2, ← foldl_rep its k (acc ++ its), ← e, List.replicate_succ, List.foldl_cons]

section
variable {X : Cx} {pins : List (Addr × Obj)} {σ : St} {H : Hp} {s : Shared} {l b : Addr} {xs ys zs : List V}

/-! ### the two steps: a tracked list is rewritten, a new list is laid -/
theorem Inv.lset {its its' : List Value} {n : Nat} {f : Array Value → Array Value} {t' : Nat} (I : Inv X pins σ H s) (hH : H l = some (.lst xs))
    (e : s.heap.get? l = some { cls := .type "list", data := .seq its.toArray n }) (hf : f its.toArray = its'.toArray) (hv : Vals ys its') (hz : ys.length ≤ sizeLine) :
    Inv X pins σ (upd H l (.lst ys)) { s with heap := s.heap.update l (Obj.mapSeq f), toks := t' } := by
  have q := PySem.IsL.update e f
  rw [hf] at q
  refine I.write (x := l) (e := l) (by rw [hH]; exact trivial) (.inl rfl) (fun b' u hb hu => (Heap.get?_update_other s.heap (Obj.mapSeq f) (Ne.symm hb)).trans hu) ⟨_, q⟩ ?_
  exact ⟨hz, its', _, hv, q⟩
theorem Inv.lnew {its : List Value} {t' : Nat} (I : Inv X pins σ H s) (hv : Vals ys its) (hz : ys.length ≤ sizeLine) :
    Inv X pins σ (upd H s.heap.objs.size (.lst ys)) { s with heap := s.heap.push { cls := .type "list", data := .seq its.toArray }, toks := t' } :=
  I.laid (fun _ _ q => Heap.get?_push_of_some _ q) (Nat.le_refl _) ⟨hz, its, 0, hv, Heap.get?_push_size _ rfl⟩
theorem Inv.fresh (I : Inv X pins σ H s) : H s.heap.objs.size = none := I.hok.fresh (Nat.le_refl _)
theorem Inv.lstM (I : Inv X pins σ H s) (hH : H l = some (.lst xs)) : xs.length ≤ sizeLine ∧ ∃ (its : List Value) (n : Nat), Vals xs its ∧ xs.length = its.length ∧ s.heap.get? l = some { cls := .type "list", data := .seq its.toArray n } := by
  obtain ⟨z, its, n, r, e⟩ := I.hok l _ hH
  exact ⟨z, its, n, r, r.length, e⟩

theorem notLongL {n : Nat} (h : n ≤ sizeLine) : Builtin.List.listTooLong n = false := by
  unfold Builtin.List.listTooLong
  exact decide_eq_false (by omega)
end

section
variable {X : Cx}

/-! ### methods -/
def rAppend : V → List V → Hp → VK → Prop := fun x vs H Q => ∃ l xs y, x = .ref l ∧ vs = [y] ∧ H l = some (.lst xs) ∧ xs.length < sizeLine ∧ Q .non (upd H l (.lst (xs ++ [y])))
theorem mt_append : MtM X "list.append" rAppend := by
  intro pins s σ H x vs v us Q I rx rv h
  obtain ⟨l, xs, y, rfl, rfl, hH, hz, q⟩ := h
  cases rx
  obtain ⟨u, rfl, ru⟩ := rv.one
  obtain ⟨z, its, n, r, hl, e⟩ := I.lstM hH
  refine call_meets F.slot_list_append ⟨_, e, rfl⟩ F.entry_list_append (F.args_list_append_2 _ _) (PySem.list_append l its.toArray n u (by rw [List.size_toArray]; omega)) ⟨e, ?_⟩
  refine ⟨.non, _, I.lset (its' := its ++ [u]) hH e (by simp) (r.append (.cons ru .nil)) ?_, rfl, q⟩
  rw [List.length_append, List.length_singleton]
  omega

def rExtend : V → List V → Hp → VK → Prop := fun x vs H Q => ∃ l b xs zs, x = .ref l ∧ vs = [.ref b] ∧ H l = some (.lst xs) ∧ H b = some (.lst zs) ∧ xs.length + zs.length ≤ sizeLine ∧ Q .non (upd H l (.lst (xs ++ zs)))
theorem mt_extend : MtM X "list.extend" rExtend := by
  intro pins s σ H x vs v us Q I rx rv h
  obtain ⟨l, b, xs, zs, rfl, rfl, hH, hB, hz, q⟩ := h
  cases rx
  obtain ⟨u, rfl, ru⟩ := rv.one
  cases ru
  obtain ⟨z, its, n, r, hl, e⟩ := I.lstM hH
  obtain ⟨z2, its2, n2, r2, hl2, e2⟩ := I.lstM hB
  have hsz : its.toArray.size + its2.toArray.size ≤ sizeLine := by rw [List.size_toArray, List.size_toArray]; omega
  have hlong : ¬ (!its.toArray.isEmpty && Builtin.List.listTooLong (its.toArray.size + its2.toArray.size)) = true := by
    rw [notLongL hsz, Bool.and_false]
    exact Bool.false_ne_true
  refine call_meets F.slot_list_extend ⟨_, e, rfl⟩ F.entry_list_extend (F.args_list_extend_2 _ _)
    (AutoSeq1.list_extend_list_list_0 l its.toArray n b its2.toArray n2 hlong (by rw [List.size_toArray]; omega) (by omega)) ⟨e, e2, ?_⟩
  refine ⟨.non, _, I.lset (its' := its ++ its2) hH e (by simp) (r.append r2) ?_, rfl, q⟩
  rw [List.length_append]
  omega

/-! ### list + list, list += list, list * int -/
def rCat : R2 := fun x y H Q => ∃ l b xs zs, x = .ref l ∧ y = .ref b ∧ H l = some (.lst xs) ∧ H b = some (.lst zs) ∧ xs.length + zs.length ≤ sizeLine ∧ ∀ p, H p = none → Q (.ref p) (upd H p (.lst (xs ++ zs)))
theorem op_cat : OpR X (binaryOp .Add) rCat := by
  intro pins s σ H x y v u Q I rx ry h
  obtain ⟨l, b, xs, zs, rfl, rfl, hH, hB, hz, q⟩ := h
  cases rx
  cases ry
  obtain ⟨z, its, n, r, hl, e⟩ := I.lstM hH
  obtain ⟨z2, its2, n2, r2, hl2, e2⟩ := I.lstM hB
  refine PySem.P.add_list e e2 ?_ (by rw [List.size_toArray, List.size_toArray]; omega)
  have ea : its.toArray ++ its2.toArray = (its ++ its2).toArray := by simp
  rw [ea]
  exact ⟨.ref _, _, I.lnew (t' := s.toks) (r.append r2) (by rw [List.length_append]; omega), rfl, q _ I.fresh⟩
/-- a list times an int (a negative one is nothing) -/
def rRep : R2 := fun x y H Q => ∃ l k xs, x = .ref l ∧ y = .int k ∧ H l = some (.lst xs) ∧ -(2 ^ 63) ≤ k ∧ k < 2 ^ 63 ∧ xs.length * k.toNat ≤ sizeLine ∧
  ∀ p, H p = none → Q (.ref p) (upd H p (.lst (List.replicate k.toNat xs).flatten))
theorem len_rep {α : Type} (xs : List α) (k : Nat) : (List.replicate k xs).flatten.length = k * xs.length := by
  induction k with
  | zero => simp
  | succ k ih => rw [List.replicate_succ, List.flatten_cons, List.length_append, ih, Nat.succ_mul, Nat.add_comm]
theorem op_rep : OpR X (binaryOp .Mult) rRep := by
  intro pins s σ H x y v u Q I rx ry h
  obtain ⟨l, k, xs, rfl, rfl, hH, h1, h2, hz, q⟩ := h
  cases rx
  obtain ⟨t, rfl⟩ := ry
  obtain ⟨z, its, n, r, hl, e⟩ := I.lstM hH
  have hlen : its.toArray.size * k.toNat ≤ sizeLine := by rw [List.size_toArray, ← hl]; exact hz
  have hcap : ¬ its.toArray.size * k.toNat > (2 ^ 63 - 1) / 8 := by
    have : (sizeLine : Nat) ≤ (2 ^ 63 - 1) / 8 := by decide
    omega
  have hfit : ¬ (!Builtin.List.listFitsIndex k) = true := by
    rw [fitsIndex_both h1 h2]
    exact Bool.false_ne_true
  have hlong : ¬ Builtin.List.listTooLong (its.toArray.size * k.toNat) = true := by
    rw [notLongL hlen]
    exact Bool.false_ne_true
  have hnew : List.foldl (fun x1 x2 => x1 ++ x2) #[] (List.replicate (if its.toArray.isEmpty = true then 0 else k.toNat) its.toArray) = (List.replicate k.toNat its).flatten.toArray := by
    have f0 : ∀ m : Nat, List.foldl (fun x1 x2 => x1 ++ x2) #[] (List.replicate m its.toArray) = (List.replicate m its).flatten.toArray := fun m => by
      have := foldl_rep its m []
      rw [List.nil_append] at this
      exact this
    rw [f0]
    cases its with
    | nil => simp
    | cons a r' => rw [if_neg (by simp)]
  refine wpAny_binaryOp_repeat_ref (T := "list") (U := "int") (by decide) ⟨_, e, rfl⟩ (fun s' => typeIs_int s' k t) noFill_list_mul F.fills_int_mul F.slot_int_rmul repeat_list F.slot_int_index.lookup
    (call_meets F.slot_int_rmul (typeIs_int s k t) F.entry_int_rmul (F.args_int_rmul_2 _ _) (int___rmul___int_list k t l its.toArray n)
      ⟨e, rfl, ⟨_, e, rfl⟩, call_meets F.slot_list_mul ⟨_, e, rfl⟩ F.entry_list_mul (F.args_list_mul_2 _ _) (AutoListH.list___mul___list_int_3 l its.toArray n k t hfit hcap hlong) ⟨e, ?_⟩⟩)
  rw [hnew]
  exact ⟨.ref _, _, I.lnew (t' := s.toks) (r.rep k.toNat) (by rw [len_rep, Nat.mul_comm]; exact hz), rfl, q _ I.fresh⟩

/-! ### del xs[i] -/
end

/-! ### xs[a:b] = ys -/
section
variable {prog : Program} {w : World} {A : Around} {E : Value → Shared → Prop} {s : Shared}
end

section
variable {X : Cx}
end
end L2

namespace Att
open PySem PySem.W PySem.Calls PyProof.Rows

/-! ### the script -/
theorem ints_of_wellAll {P : Params} {h : Heap} : ∀ (ns : List Int) (vs : List Value), WellAll P h vs (ns.map WData.int) → IntsAre vs ns := by
  intro ns
  induction ns with
  | nil =>
    intro vs w
    rw [List.map_nil] at w
    cases w
    exact .nil
  | cons n ns ih =>
    intro vs w
    rw [List.map_cons] at w
    cases w with
    | cons a b =>
      cases a
      exact .cons _ _ (ih _ b)

theorem script_of {l : OpenLaw} {n : Nat} (hn : l.most = some n) {P : Params} {h : Heap} {args : List WData} {vals : List Value}
    (hpre : l.row.toRowW.claim.pre args = true) (hwl : WellAll P h vals args) :
    ∃ a vs ns, vals = [Value.ref a] ∧ args = [WData.list (ns.map WData.int)] ∧ h.get? a = some { cls := .type "list", data := .seq vs.toArray } ∧ IntsAre vs ns ∧ ns.length ≤ n := by
  have hsh : WShape.hasAll [] args [.list .int] = true := (pre_splitW hpre).1
  have hc : l.pre.holds [] { args := args } = true := (pre_splitW hpre).2
  obtain ⟨d, r, rfl, h1, h2⟩ := hasAllW_cons hsh
  obtain rfl := hasAllW_nil h2
  obtain ⟨xs, rfl, h3⟩ := hasW_list h1
  obtain ⟨ns, rfl⟩ := items_int h3
  have hlen : ns.length ≤ n := by
    unfold OpenLaw.pre at hc
    have h4 : (WTm.not (.lt (.lit (.int (n : Int))) (.len (.arg 0)))).holds [] { args := [.list (ns.map .int)] } = true := by
      have h4 := (holds_andW hc).1
      rw [hn] at h4
      exact h4
    have h5 := condW_of h4 (w_not (w_lt w_lit (w_len_list (w_arg rfl))))
    rw [List.length_map] at h5
    refine Nat.le_of_not_lt fun q => ?_
    have q' : (n : Int) < ((ns.length : Nat) : Int) := by omega
    first
      | (rw [decide_eq_true q'] at h5; exact absurd h5 (by decide))
      | (simp at h5; omega)
  cases hwl with
  | cons w1 w2 =>
    cases w2
    cases w1 with
    | list ho hall => exact ⟨_, _, ns, rfl, rfl, ho, ints_of_wellAll ns _ hall, hlen⟩

theorem post_true (l : OpenLaw) (args : List WData) : l.row.toRowW.claim.post args (.bool true) args = true :=
  postW_of (r := l.row.toRowW) (X := (true == true))
    (show WShape.has [] (.bool true) .bool = true by first | rfl | decide | simp [WShape.has, WShape.arms, WShape.armsAll])
    (show (WTm.eq .res (.lit (.bool true))).value [] { args := args, res := some (.bool true), after := args } = some (.bool (true == true)) from w_eq_bool (w_res rfl) w_lit) rfl

/-! ### the attachment: holds_open's last premise (the goal 'hc' behind k_head) from a wpAny of the law's body -/
/-- the same from a codeAny of the CALL (for a layer whose function contracts speak of calls) -/
theorem attach_call {l : OpenLaw} {n : Nat} {q : Program} {loose : List Str} {XP : (Str → Option Value) → Heap → Prop} {YP : World → Heap → Prop} {d : DefRec}
    (hn : l.most = some n) (hdf : d.params.defaults = [])
    (call : ∀ (w : World) (s₀ s₁ : Shared) (mg mb : Str → Option Value) (fa : Addr) (o : Obj) (pm cd doc : Value) (a : Addr) (vs : List Value) (ns : List Int),
      Ground q loose [] XP w s₀ mg mb s₁.heap → YP w s₁.heap →
      s₁.heap.get? fa = some o → o.data = .func (docDef d.name d.params d.body d.scope pm cd doc) → s₁.heap.CodeRec cd d.name → mg d.name = some (.ref fa) →
      s₁.heap.get? a = some { cls := .type "list", data := .seq vs.toArray } → IntsAre vs ns → ns.length ≤ n → s₁.gens = #[] →
      codeAny (model l.prog w) callerA (.call (.ref fa) ⟨[.ref a], []⟩) (fun r s' => r = .ok (.ret (.bool true)) ∧ OldK s₁.heap s'.heap ∧ s'.os = s₁.os ∧ AllBare s'.gens) s₁) :
    WalkO q loose XP YP l.row.toRowW d [] (fun f vs => PySem.call f vs) := by
  intro w s₀ s₁ mg mb G Y fa o pm cd doc dV kV ho hd hcd hD hmg hg args vals as hpre hlay hrd hwl hlo
  obtain rfl : dV = .none := Dflts.none hD hdf
  obtain rfl : kV = .none := Dflts.noKw hD
  obtain ⟨a, vs, ns, rfl, rfl, hobj, hints, hlen⟩ := script_of hn hpre hwl
  refine enter_call (codeAny_mono (call w s₀ s₁ mg mb fa o pm cd doc a vs ns G Y ho (fd_plain hd) hcd hmg hobj hints hlen hg) fun r s' hq => ?_)
  obtain ⟨rfl, h2, h3, h4⟩ := hq
  exact ⟨.inl ⟨.bool true, .bool true, [], rfl, fun _ => rfl, .bool true, post_true l _, fun _ => ⟨List.Pairwise.nil, fun _ hm => (nomatch hm)⟩⟩, h2, h3, h4⟩

/-! ### rules over ANY heap (no ledger) from facts about the written part K: the library's own take a ledger (News) for what they write -/
section
variable {prog : Program} {w : World} {A : Around} {E : Value → Shared → Prop} {s : Shared} {K : Frag}

/-! the whole heap as the ledger: makes every rule that writes through a ledger a rule over any heap -/
end
end Att

namespace L2
open PySem PySem.Spec PyProof.Rows

theorem vals_ints : ∀ {vs : List Value} {ns : List Int}, IntsAre vs ns → Vals (ns.map V.int) vs
  | _, _, .nil => .nil
  | _, _, .cons n t h => .cons ⟨t, rfl⟩ (vals_ints h)

/-- nothing is tracked but the script, known to the object (or it is an object of the module) -/
def Only (H : Hp) : Prop := ∀ b, H b = none ∨ ∃ o xs, H b = some (.frz o (.lst xs))

/-- THE HEAD: the law's promise, at the heap behind the top. F, the promise of the law's def, may use that base is part of the heap (so K.In base, base.Ns mainGlobals mg stand in Mod) -/
theorem law_call {P : Program} {w : World} {K : PySem.W.Frag} {mg mb : Str → Option Value} {CX : CXT} {k : Nat} {fa a : Addr} {fd : FuncData} {x : Str} {sp : Sp} {s₁ : Shared} {vs : List Value} {ns : List Int}
    (KX : K.In s₁.heap) (hns : s₁.heap.Ns mainGlobals mg) (hb : s₁.heap.Ns builtinsNs mb) (hbb : ∀ x : Str, x ≠ "__name__" → mb x = bootBuiltins x) (hlim : s₁.heap.NoLimit) (hg : s₁.gens = #[])
    (ha : s₁.heap.get? a = some { cls := .type "list", data := .seq vs.toArray }) (hi : IntsAre vs ns) (hl : ns.length ≤ sizeLine) (hr : Room k callerA)
    (F : ∀ base : Heap, K.In base → base.Ns mainGlobals mg → FnOk P w K mg base CX k fa fd [x] sp) (hbind : ∀ (s : Shared) (u : Value), BindsTo s fd ⟨[u], []⟩ [(x, u)])
    (hsp : ∀ H : Hp, Only H → SqL K H a (ns.map V.int) → sp [.ref a] H (fun v _ => v = .bl true) fun _ _ _ => False)
    (hCX : ∀ H e s', CX [] H s₁ (fun _ _ _ => False) e s' → False) :
    codeAny (model P w) callerA (.call (.ref fa) ⟨[.ref a], []⟩) (fun r s' => r = .ok (.ret (.bool true)) ∧ OldK s₁.heap s'.heap ∧ s'.os = s₁.os ∧ AllBare s'.gens) s₁ := by
  have rv := vals_ints hi
  have lenV := hi.length
  -- from an abstract heap in which nothing but the script may be tracked
  have core : ∀ H : Hp, Only H → SqL K H a (ns.map V.int) → HOk P w H s₁.heap → (∀ b, H b ≠ none → b = a) → (H a ≠ none → K.lookup a = none) →
      codeAny (model P w) callerA (.call (.ref fa) ⟨[.ref a], []⟩) (fun r s' => r = .ok (.ret (.bool true)) ∧ OldK s₁.heap s'.heap ∧ s'.os = s₁.os ∧ AllBare s'.gens) s₁ := by
    intro H hO hS hok hA hK
    have base_of : ∀ {b : Addr} {o : Obj}, s₁.heap.get? b = some o → H b = none → (hidT s₁.heap H).get? b = some o := fun e n => hidT_get e n
    have noA : ∀ {b : Addr} {o : Obj} {es : Array DictEntry} {ep : Nat}, s₁.heap.get? b = some o → o.data = .dict es ep → H b = none := fun {b o es ep} e d => by
      cases q : H b with
      | none => rfl
      | some u =>
        have e' : b = a := hA b (by rw [q]; simp)
        subst e'
        rw [ha] at e; cases e
        have d' : Data.seq vs.toArray _ = Data.dict es ep := d
        cases d'
    have nsK : ∀ {b : Addr} {m : Str → Option Value}, s₁.heap.Ns b m → (hidT s₁.heap H).Ns b m := fun {b m} ⟨o, es, ep, e, d, r⟩ => ⟨o, es, ep, base_of e (noA e d), d, r⟩
    have hKb : K.In (hidT s₁.heap H) := fun b o e => base_of (KX b o e) (by
      cases q : H b with
      | none => rfl
      | some u =>
        have e' : b = a := hA b (by rw [q]; simp)
        subst e'
        rw [hK (by rw [q]; simp)] at e; cases e)
    have hM : Mod K mg (hidT s₁.heap H) := ⟨hKb, nsK hns, ⟨mb, nsK hb, hbb⟩, let ⟨mc, h1, h2⟩ := hlim; ⟨mc, nsK h1, h2⟩⟩
    have e0 : Env0 P w K mg (hidT s₁.heap H) callerA [] s₁ H := ⟨rfl, hM, fun b o e => of_hidT e, Nat.le_of_eq (hidT_size _ _), trivial, fun b hb => absurd (show b ∈ ([] : List Addr) from hb) (by simp), hok, .of_eq hg⟩
    refine codeAny_mono ((F _ hKb (nsK hns)).run callerA [] s₁ H ⟨[.ref a], []⟩ [.ref a] [.ref a] _ _ hr e0 (hbind s₁ (.ref a)) (.cons rfl .nil) (hsp H hO hS)) fun r s' h => ?_
    cases r with
    | error e => exact (hCX H e s' h).elim
    | ok fl =>
      cases fl with
      | next => exact False.elim h
      | brk => exact False.elim h
      | cont => exact False.elim h
      | ret u =>
        obtain ⟨v, H', os, bare, un, hok', r', q⟩ := h
        have q' : v = .bl true := q
        subst q'
        obtain rfl : u = Value.bool true := r'
        refine ⟨rfl, OldK.of_keep fun b o e => ?_, os, bare⟩
        cases q : H b with
        | none => exact un.keep b o e q (by intro z; exact absurd (show b ∈ ([] : List Addr) from z) (by simp)) (by simp)
        | some u =>
          rcases hO b with z | ⟨ob, xs, z⟩
          · rw [q] at z; cases z
          · have z2 := un.frzs b ob _ z
            obtain ⟨e1, _⟩ := hok b _ z
            obtain ⟨e2, _⟩ := hok' b _ z2
            rw [e] at e1; cases e1
            exact e2
  cases hk : K.lookup a with
  | some o =>
    -- the script is one of the module's own objects
    have e := KX a o hk
    rw [ha] at e
    cases e
    refine core (fun _ => none) (fun _ => .inl rfl) (.inr ⟨_, vs.toArray, _, hk, rfl, rfl, rfl, by rw [List.size_toArray, lenV]; exact hl, by simpa using rv⟩) (fun b u z => by have z' : (none : Option HO) = some u := z; cases z') (fun b z => absurd rfl z) fun z => absurd rfl z
  | none =>
    refine core (fun b => if b = a then some (.frz { cls := .type "list", data := .seq vs.toArray } (.lst (ns.map V.int))) else none) (fun b => ?_) (.inl (.inr ⟨{ cls := .type "list", data := .seq vs.toArray }, if_pos rfl⟩)) (fun b u z => ?_) (fun b z => ?_) fun _ => hk
    · by_cases hb : b = a
      · exact .inr ⟨_, _, if_pos hb⟩
      · exact .inl (if_neg hb)
    · by_cases hb : b = a
      · have z' := (if_pos hb).symm.trans z
        cases z'
        subst hb
        exact ⟨ha, by rw [List.length_map]; exact hl, vs, _, rv, ha⟩
      · have z' := (if_neg hb).symm.trans z
        cases z'
    · by_cases hb : b = a
      · exact hb
      · exact absurd (if_neg hb) z
end L2

namespace L2
open PySem PySem.Spec PyProof.Rows

/-- the goal that k_head leaves (case hc), from the law's promise. F gives the function object fd (K's own) once, then the promise over every base -/
theorem walk_of {l : PySem.W.OpenLaw} {n k : Nat} {q : Program} {loose : List Str} {XP : (Str → Option Value) → Heap → Prop} {YP : World → Heap → Prop} {d : DefRec} {K : Params → PySem.W.Frag} {CX : World → CXT} {sp : World → Sp} {x : Str}
    (hn : l.most = some n) (hn2 : n ≤ sizeLine) (hdf : d.params.defaults = []) (hr : Room k callerA)
    (hY : ∀ (w : World) (h : Heap), YP w h → (K w.params).In h)
    (F : ∀ (w : World) (mg : Str → Option Value) (fa : Addr) (h : Heap), (K w.params).In h → h.Ns mainGlobals mg → mg d.name = some (.ref fa) →
      ∃ fd : FuncData, (∀ (s : Shared) (u : Value), BindsTo s fd ⟨[u], []⟩ [(x, u)]) ∧
        ∀ base : Heap, (K w.params).In base → base.Ns mainGlobals mg → FnOk l.prog w (K w.params) mg base (CX w) k fa fd [x] (sp w))
    (hsp : ∀ (w : World) (H : Hp) (a : Addr) (ns : List Int), ns.length ≤ n → Only H → SqL (K w.params) H a (ns.map V.int) → sp w [.ref a] H (fun v _ => v = .bl true) fun _ _ _ => False)
    (hCX : ∀ (w : World) (H : Hp) (s : Shared) (e : Value) (s' : Shared), CX w [] H s (fun _ _ _ => False) e s' → False) :
    PySem.W.WalkO q loose XP YP l.row.toRowW d [] (fun f vs => PySem.call f vs) := by
  refine Att.attach_call hn hdf fun w s₀ s₁ mg mb fa o pm cd doc a vs ns G Y ho hd hcd hmg hobj hints hlen hg => ?_
  have KX := hY w _ Y
  obtain ⟨fd, hb, hF⟩ := F w mg fa _ KX G.T.g hmg
  exact law_call KX G.T.g G.T.b G.T.builtins G.T.nolimit hg hobj hints (Nat.le_trans hlen hn2) hr hF hb (fun H hO hS => hsp w H a ns hlen hO hS) fun H e s' => hCX w H s₁ e s'
end L2



/-! SHORT WORDS over the layer: a def of the text, its body, what a loop and a test want. -/
namespace L2
open PySem PySem.Spec PyProof.Rows

/-! ### the text by places -/
/-- the j-th statement of a class's body -/
def inClass (s : Stmt) (j : Nat) : Stmt := match s with
  | .ClassDef _ _ _ body _ _ _ _ _ _ _ => body.getD j (.Pass ⟨0, 0, 0, 0⟩)
  | _ => .Pass ⟨0, 0, 0, 0⟩
def defArgs (s : Stmt) : Arguments := match s with
  | .FunctionDef _ a _ _ _ _ _ _ _ _ => a
  | _ => { posonlyargs := [], args := [], vararg := none, kwonlyargs := [], kw_defaults := [], kwarg := none, defaults := [] }
def defBody (s : Stmt) : List Stmt := match s with
  | .FunctionDef _ _ b _ _ _ _ _ _ _ => b
  | _ => []
def defScope (s : Stmt) : Scope := match s with
  | .FunctionDef _ _ _ _ _ _ sc _ _ _ => sc
  | _ => { kind := .function, names := [], isGenerator := false, isCoroutine := false }

/-! ### no exception leaves a def -/
abbrev CX0 : CXT := fun _ _ _ _ _ _ => False
abbrev E0 : XK := fun _ _ _ => False
theorem pass0 {X : Cx} : Passes CX0 X E0 := fun _ _ _ _ _ _ _ h => h.elim

/-! ### a def (or method) of the text as it stands behind the top -/
structure Fun (K : PySem.W.Frag) (x qual : Str) (st : Stmt) (f : Addr) (fd : FuncData) : Prop where
  ex : ∃ (oc : Value) (od : Option Addr) (kV doc pm : Value) (an : Option Addr) (cdv ct : Value) (osl : Array (Option Value)),
    fd = PySem.W.fnOf x qual (defArgs st) (defBody st) (defScope st) .none kV doc pm an cdv ct ∧ K.lookup f = some ⟨oc, od, .func fd, osl⟩ ∧ PySem.W.codeIn K cdv qual = true
  kp : PySem.W.keepIn K (.ref f) = true
section
variable {P : Program} {w : World} {K : PySem.W.Frag} {mg : Str → Option Value} {base : Heap}
/-- THE RULE for a def: its body as a term of rules, and the reading of that term -/
theorem Fun.ok {x qual : Str} {st : Stmt} {f : Addr} {fd : FuncData} {N ps : List Str} {k : Nat} {sp : Sp} (F : Fun K x qual st f fd) (S : FnScope N ps (defScope st)) (len : ∀ vs H Q E, sp vs H Q E → vs.length = ps.length)
    (hbody : ∀ (cdv : Value) (A : Around) (outer : List Env) (s : Shared) (H : Hp) (vs : List V) (Q : VK) (E : XK), Room k (A.deeper (envOfC qual (defScope st) s.heap.objs.size f cdv)) → sp vs H Q E →
      ∃ t, PSs (cxOf CX0 P w K mg base N qual (defScope st) f cdv A outer s H E).nox (defBody st) t ∧ t { nx := fun _ H' => Q .non H', rt := Q } (start N vs) H) : FnOk P w K mg base CX0 (k + 1) f fd ps sp := by
  obtain ⟨oc, od, kV, doc, pm, an, cdv, ct, osl, rfl, lk, hcd⟩ := F.ex
  refine fn_of lk hcd S len fun A outer s H vs Q E hr hsp => ?_
  obtain ⟨t, h, q⟩ := hbody cdv A outer s H vs Q E hr hsp
  exact ⟨t, h.nox, q⟩
/-- how its arguments bind (no defaults): h is «fun _ _ _ _ _ _ us hl => match us, hl with | [_, _], _ => rfl», one _ a parameter -/
theorem Fun.binds {x qual : Str} {st : Stmt} {f : Addr} {fd : FuncData} {ps : List Str} (F : Fun K x qual st f fd)
    (h : ∀ (kV doc pm : Value) (an : Option Addr) (cdv ct : Value) (us : List Value), us.length = ps.length → bindArgs (PySem.W.fnOf x qual (defArgs st) (defBody st) (defScope st) .none kV doc pm an cdv ct) ⟨us, []⟩ = pure (ps.zip us)) : Binds K fd ps [] := by
  obtain ⟨oc, od, kV, doc, pm, an, cdv, ct, osl, rfl, lk, hcd⟩ := F.ex
  exact .all (h kV doc pm an cdv ct)
theorem fun_mk {x qual : Str} {st : Stmt} {f : Addr} {oc : Value} {od an : Option Addr} {osl : Array (Option Value)} {kV doc pm cdv ct : Value} (l : K.lookup f = some ⟨oc, od, .func (PySem.W.fnOf x qual (defArgs st) (defBody st) (defScope st) .none kV doc pm an cdv ct), osl⟩)
    (c : PySem.W.codeIn K cdv qual = true) (k : PySem.W.keepIn K (.ref f) = true) : Fun K x qual st f (PySem.W.fnOf x qual (defArgs st) (defBody st) (defScope st) .none kV doc pm an cdv ct) := ⟨⟨oc, od, kV, doc, pm, an, cdv, ct, osl, rfl, l, c⟩, k⟩
end
theorem hu_of {A : Around} {k : Nat} (hr : Room k A) : A.units + 1 < cLine := Nat.lt_of_le_of_lt (Nat.add_le_add_left (by decide : 1 ≤ 64) _) hr.units
theorem small1000 {n : Nat} (h : n ≤ 1000) : n < sizeLine := Nat.lt_of_le_of_lt h (by decide)

/-! ### expressions in short: the name that stands in the i-th slot -/
section
variable {X : Cx}
theorem pv (i : Nat) {x : Str} {pos : Pos} (hN : X.N[i]? = some x := by rfl) (hv : Vis X.env.scope x := by first | exact Or.inl rfl | exact Or.inr (Or.inl rfl) | exact Or.inr (Or.inr rfl)) (hd : (x == ("__debug__" : Str)) = false := by decide)
    (hcd : (x == ("__classdict__" : Str)) = false := by decide) : PE X (.Name x pos) (tVar i) := pe_var hN hv hd hcd
end

/-! ### tests -/
theorem iteF {A B : Prop} (h : B) : if false = true then A else B := by
  rw [if_neg Bool.false_ne_true]
  exact h
theorem iteT {A B : Prop} (h : A) : if true = true then A else B := by
  rw [if_pos rfl]
  exact h
theorem ite2 {c A B : Prop} [Decidable c] (h1 : c → A) (h2 : ¬ c → B) : if c then A else B := by
  by_cases h : c
  · rw [if_pos h]
    exact h1 h
  · rw [if_neg h]
    exact h2 h
/-! ### heaps -/
/-- all that was tracked is as it was -/
def Same (H H' : Hp) : Prop := ∀ b o, H b = some o → H' b = some o
theorem Same.trans {H H1 H2 : Hp} (a : Same H H1) (b : Same H1 H2) : Same H H2 := fun c o h => b c o (a c o h)
theorem Same.free {H H' : Hp} (e : Same H H') {l : Addr} (h : H' l = Option.none) : H l = Option.none := by
  cases q : H l with
  | none => rfl
  | some o =>
    rw [e l o q] at h
    cases h
theorem Same.seq {K : PySem.W.Frag} {H H' : Hp} {a : Addr} {xs : List V} (e : Same H H') (h : SqL K H a xs) : SqL K H' a xs := by
  rcases h with (h | ⟨o, h⟩) | h
  · exact .inl (.inl (e _ _ h))
  · exact .inl (.inr ⟨o, e _ _ h⟩)
  · exact .inr h

end L2

set_option maxHeartbeats 4000000
namespace XL
open PySem
open Sem (wp)

theorem alive_of {o : Obj} (h : o.alive = true) : o.isFreed = false := by
  obtain ⟨c, d, dt, sl⟩ := o
  cases dt <;> first | rfl | cases h
/-- no object loses or gains a dict -/
def DK (h h' : Heap) : Prop := ∀ b o, h.get? b = some o → ∃ o', h'.get? b = some o' ∧ o'.dict = o.dict
theorem DK.refl (h : Heap) : DK h h := fun _ o e => ⟨o, e, rfl⟩
theorem DK.trans {h h1 h2 : Heap} (a : DK h h1) (b : DK h1 h2) : DK h h2 := fun c o e =>
  let ⟨o1, e1, d1⟩ := a c o e; let ⟨o2, e2, d2⟩ := b c o1 e1; ⟨o2, e2, d2.trans d1⟩
theorem DK.of_keeps {h h' : Heap} (k : ∀ b o, h.get? b = some o → h'.get? b = some o) : DK h h' := fun b o e => ⟨o, k b o e, rfl⟩
theorem DK.update {h : Heap} {a : Addr} {f : Obj → Obj} (hd : ∀ o, (f o).dict = o.dict) (hf : ∀ o, o.isFreed = false → (f o).isFreed = false) : DK h (h.update a f) := fun b o e => by
  by_cases q : b = a
  · subst q
    exact ⟨_, Heap.get?_update_self f e (hf o (alive_of ((Heap.get?_eq_some _ _ _).1 e).2)), hd o⟩
  · exact ⟨o, (Heap.get?_update_other h f (Ne.symm q)).trans e, rfl⟩

/-- a tree that leaves every object's dict as it is -/
structure KD {α : Type} (t : Sem α) : Prop where
  out : ∀ (M : Model) (Γ : Ctx) (P : α → Pos → Shared → Prop) (E : Value → Pos → Shared → Prop) (p : Pos) (s : Shared), wp M Γ t P E p s → wp M Γ t (fun a p' s' => P a p' s' ∧ DK s.heap s'.heap) E p s

namespace KD
variable {α β : Type}
theorem any {M : Model} {A : Around} {t : Sem α} {Q : α → Shared → Prop} {E : Value → Shared → Prop} {s : Shared} (k : KD t) (h : wpAny M A t Q E s) : wpAny M A t (fun a s' => Q a s' ∧ DK s.heap s'.heap) E s :=
  fun Γ p hΓ => k.out M Γ _ _ p s (h Γ p hΓ)
theorem pure' (a : α) : KD (Pure.pure a : Sem α) := ⟨fun M Γ P E p s h => by
  simp only [Sem.wp_pure'] at h ⊢
  exact ⟨h, DK.refl _⟩⟩
theorem unsupported' (w : String) : KD (PySem.unsupported w : Sem α) := ⟨fun M Γ P E p s h => h.elim⟩
theorem bind' {t : Sem α} {f : α → Sem β} (a : KD t) (b : ∀ x, KD (f x)) : KD (t >>= f) := ⟨fun M Γ P E p s h => by
  rw [Sem.wp_bind'] at h ⊢
  refine Sem.wp_mono M Γ _ (fun x p1 s1 h1 => ?_) (fun _ _ _ z => z) p s (a.out M Γ _ _ p s h)
  obtain ⟨h1, d1⟩ := h1
  refine Sem.wp_mono M Γ _ (fun y p2 s2 h2 => ?_) (fun _ _ _ z => z) p1 s1 ((b x).out M Γ _ _ p1 s1 h1)
  exact ⟨h2.1, d1.trans h2.2⟩⟩
theorem ite' {c : Prop} [Decidable c] {t u : Sem α} (a : KD t) (b : KD u) : KD (if c then t else u) := by
  split
  · exact a
  · exact b
theorem load' (a : Addr) : KD (PySem.load a) := ⟨fun M Γ P E p s h => by
  unfold PySem.load at h ⊢
  rw [Sem.wp_load] at h ⊢
  obtain ⟨o, ho, h⟩ := h
  refine ⟨o, ho, ?_⟩
  simp only [Sem.wp_pure] at h ⊢
  exact ⟨h, DK.refl _⟩⟩
theorem update' (a : Addr) (f : Obj → Obj) (hd : ∀ o, (f o).dict = o.dict) (hf : ∀ o, o.isFreed = false → (f o).isFreed = false) : KD (PySem.update a f) := ⟨fun M Γ P E p s h => by
  unfold PySem.update at h ⊢
  rw [Sem.wp_update] at h ⊢
  obtain ⟨o, h⟩ := h
  refine ⟨o, ?_⟩
  simp only [Sem.wp_pure] at h ⊢
  exact ⟨h, DK.update hd hf⟩⟩
theorem alloc' (o : Obj) : KD (PySem.alloc o) := ⟨fun M Γ P E p s h => by
  unfold PySem.alloc at h ⊢
  rw [Sem.wp_alloc] at h ⊢
  simp only [Sem.wp_pure] at h ⊢
  exact ⟨h, DK.of_keeps fun b u e => Heap.get?_push_of_some _ e⟩⟩
theorem stack' : KD PySem.stack := ⟨fun M Γ P E p s h => by
  unfold PySem.stack at h ⊢
  rw [Sem.wp_stack] at h ⊢
  simp only [Sem.wp_pure] at h ⊢
  exact ⟨h, DK.refl _⟩⟩
theorem fieldsOf' (v : Value) : KD (PySem.fieldsOf v) := by
  unfold PySem.fieldsOf
  cases v <;> first | exact unsupported' _ | skip
  refine bind' (load' _) fun o => ?_
  split
  · exact pure' _
  · exact unsupported' _
theorem field' (v : Value) (i : Nat) : KD (PySem.field v i) := by
  unfold PySem.field
  refine bind' (fieldsOf' v) fun vs => ?_
  split
  · exact pure' _
  · exact unsupported' _
theorem mapFields_dict (g : Array Value → Array Value) (o : Obj) : (Obj.mapFields g o).dict = o.dict := by
  obtain ⟨c, d, dt, sl⟩ := o
  cases dt <;> rfl
theorem mapFields_freed (g : Array Value → Array Value) (o : Obj) (h : o.isFreed = false) : (Obj.mapFields g o).isFreed = false := by
  obtain ⟨c, d, dt, sl⟩ := o
  cases dt <;> first | rfl | exact h
theorem setField' (v : Value) (i : Nat) (x : Value) : KD (PySem.setField v i x) := by
  unfold PySem.setField
  cases v <;> first | exact unsupported' _ | skip
  unfold PySem.updateField
  refine bind' (load' _) fun o => ?_
  split
  · exact ite' (update' _ _ (mapFields_dict _) (mapFields_freed _)) (unsupported' _)
  · exact unsupported' _
theorem behindIsImport' (env : Env) (outer : List Env) : KD (PySem.behindIsImport env outer) := by
  unfold PySem.behindIsImport
  repeat' first | exact pure' _ | exact field' _ _ | apply ite' | apply bind' | intro _
theorem underTheClaimsCaller' : KD PySem.underTheClaimsCaller := by
  unfold PySem.underTheClaimsCaller
  repeat' first | exact pure' _ | exact stack' | apply ite' | apply bind' | intro _
theorem keptBack' (env : Env) (i : Bool) (l : List Env) : KD (PySem.keptBack env i l) := by
  have := underTheClaimsCaller'
  cases l <;> unfold PySem.keptBack <;> repeat' first | assumption | exact pure' _ | apply ite' | apply bind' | intro _
theorem readyFrames' : ∀ l : List Env, KD (PySem.readyFrames l)
  | [] => pure' _
  | env :: outer => by
    have ih := readyFrames' outer
    have h1 := behindIsImport' env outer
    have h2 := fun i => keptBack' env i outer
    unfold PySem.readyFrames
    cases env.frame with
    | none => exact unsupported' _
    | some f =>
      refine bind' (load' _) fun o => ite' (pure' _) ?_
      refine bind' h1 fun i => bind' (h2 i) fun b => bind' (update' _ _ (fun _ => rfl) (fun o h => by obtain ⟨c, d, dt, sl⟩ := o; cases dt <;> first | rfl | exact h)) fun _ => ih
theorem frameObject' (l : List Env) : KD (PySem.frameObject l) := by
  cases l with
  | nil => exact pure' _
  | cons env outer =>
    unfold PySem.frameObject
    exact bind' (readyFrames' _) fun _ => pure' _
theorem frameOf' (env : Env) : KD (PySem.frameOf env) := by
  unfold PySem.frameOf PySem.frameEnvs
  refine bind' (bind' stack' fun _ => pure' _) fun l => bind' (frameObject' _) fun o => ?_
  cases o with
  | none => exact unsupported' _
  | some f => exact pure' _
theorem entryPlaceOf' (f : Addr) (b : Bool) : KD (PySem.entryPlaceOf f b) := by
  unfold PySem.entryPlaceOf
  refine bind' stack' fun a => ?_
  split <;> exact pure' _
theorem newEntry' (a b c d e : Value) (pl : List Value) : KD (PySem.EntryCells.newEntry a b c d e pl) := by
  unfold PySem.EntryCells.newEntry PySem.newFields PySem.newObj PySem.newObjAsIs
  dsimp only
  repeat' first | exact unsupported' _ | exact pure' _ | exact alloc' _ | apply ite' | apply bind' | intro _
theorem noteFrame' (e : Value) (env : Env) : KD (PySem.noteFrame e env) := by
  unfold PySem.noteFrame
  cases env.frame with
  | none => exact unsupported' _
  | some f =>
    dsimp only
    have tail : ∀ head, KD (do setField e 1 (← EntryCells.newEntry head (← frameOf env) .none (rawInt f) .none (← entryPlaceOf f (head != .none)))) := fun head =>
      bind' (frameOf' env) fun _ => bind' (entryPlaceOf' _ _) fun _ => bind' (newEntry' _ _ _ _ _ _) fun _ => setField' _ _ _
    refine bind' (field' _ _) fun head => ite' ?_ (tail head)
    exact bind' (field' _ _) fun x => ite' (pure' _) (bind' (setField' _ _ _) fun _ => tail head)
theorem setFlight' (e : Value) (f : Option Addr) : KD (PySem.setFlight e f) := by
  unfold PySem.setFlight
  exact bind' (field' _ _) fun _ => ite' (setField' _ _ _) (pure' _)
theorem leaving' (env : Env) (e : Value) : KD (PySem.leaving env e) := by
  unfold PySem.leaving
  exact bind' (noteFrame' _ _) fun _ => setFlight' _ _
end KD
end XL
namespace XM
/-- item by item -/
inductive All2 {α β : Type} (R : α → β → Prop) : List α → List β → Prop
  | nil : All2 R [] []
  | cons {x : α} {y : β} {xs : List α} {ys : List β} : R x y → All2 R xs ys → All2 R (x :: xs) (y :: ys)
namespace All2
variable {α β : Type} {R S : α → β → Prop}
theorem length {xs : List α} {ys : List β} (h : All2 R xs ys) : xs.length = ys.length := by
  induction h with
  | nil => rfl
  | cons _ _ ih => simp [ih]
theorem imp {xs : List α} {ys : List β} (k : ∀ x y, R x y → S x y) (h : All2 R xs ys) : All2 S xs ys := by
  induction h with
  | nil => exact .nil
  | cons r _ ih => exact .cons (k _ _ r) ih
theorem append {xs xs' : List α} {ys ys' : List β} (h : All2 R xs ys) (h' : All2 R xs' ys') : All2 R (xs ++ xs') (ys ++ ys') := by
  induction h with
  | nil => exact h'
  | cons r _ ih => exact .cons r ih
theorem take {xs : List α} {ys : List β} (h : All2 R xs ys) : ∀ n, All2 R (xs.take n) (ys.take n) := by
  induction h with
  | nil => intro n; simp; exact .nil
  | cons r _ ih => intro n; cases n with
    | zero => exact .nil
    | succ n => exact .cons r (ih n)
theorem drop {xs : List α} {ys : List β} (h : All2 R xs ys) : ∀ n, All2 R (xs.drop n) (ys.drop n) := by
  induction h with
  | nil => intro n; simp; exact .nil
  | cons r t ih => intro n; cases n with
    | zero => exact .cons r t
    | succ n => exact ih n
theorem get {xs : List α} {ys : List β} (h : All2 R xs ys) : ∀ {i : Nat} {x : α}, xs[i]? = some x → ∃ y, ys[i]? = some y ∧ R x y := by
  induction h with
  | nil => intro i x e; simp at e
  | cons r _ ih => intro i x e; cases i with
    | zero => simp at e; subst e; exact ⟨_, rfl, r⟩
    | succ i => simp at e; obtain ⟨y, h1, h2⟩ := ih e; exact ⟨y, by simpa using h1, h2⟩
theorem of_get {xs : List α} : ∀ {ys : List β}, xs.length = ys.length → (∀ (i : Nat) x y, xs[i]? = some x → ys[i]? = some y → R x y) → All2 R xs ys := by
  induction xs with
  | nil => intro ys e _; cases ys with
    | nil => exact .nil
    | cons _ _ => simp at e
  | cons x xs ih => intro ys e k; cases ys with
    | nil => simp at e
    | cons y ys => exact .cons (k 0 x y rfl rfl) (ih (by simpa using e) fun i a b h1 h2 => k (i + 1) a b (by simpa using h1) (by simpa using h2))
end All2

abbrev PP := List (Int × Int)
def okPair (q : Int) (p : Int × Int) : Bool := (decide (0 ≤ p.1) && decide (p.1 < q)) && ((decide (0 ≤ p.2) && decide (p.2 < q)) && !decide (p.1 = p.2))
def fits (q : Int) (ps : PP) : Bool := (decide (1 ≤ q) && decide (q ≤ 24)) && (decide (ps.length ≤ 60) && ps.all (okPair q))
def mkPair (q c : Int) : Int × Int := (c % q, (c % q + 1 + c / q % (q - 1)) % q)
theorem mkPair_ok (q c : Int) (hq : 1 < q) : okPair q (mkPair q c) = true := by
  have h1 := Int.emod_nonneg c (b := q) (by omega)
  have h2 := Int.emod_lt_of_pos c (b := q) (by omega)
  have h3 := Int.emod_nonneg (c / q) (b := q - 1) (by omega)
  have h4 := Int.emod_lt_of_pos (c / q) (b := q - 1) (by omega)
  have key : ∀ (o r : Int), 0 ≤ o → o < q → 0 ≤ r → r < q - 1 → 0 ≤ (o + 1 + r) % q ∧ (o + 1 + r) % q < q ∧ o ≠ (o + 1 + r) % q := by
    intro o r a b c d
    have e1 := Int.emod_nonneg (o + 1 + r) (b := q) (by omega)
    have e2 := Int.emod_lt_of_pos (o + 1 + r) (b := q) (by omega)
    refine ⟨e1, e2, fun z => ?_⟩
    by_cases h : o + 1 + r < q
    · rw [Int.emod_eq_of_lt (by omega) h] at z; omega
    · have : (o + 1 + r) % q = o + 1 + r - q := by
        rw [← Int.sub_emod_right]
        exact Int.emod_eq_of_lt (by omega) (by omega)
      omega
  obtain ⟨k1, k2, k3⟩ := key (c % q) (c / q % (q - 1)) h1 h2 h3 h4
  unfold okPair mkPair
  simp [h1, h2, k1, k2, k3]
def townP (q : Int) (ns : List Int) : PP := if 1 < q then ns.map (mkPair q) else []
theorem town_fits (q : Int) (h1 : 1 ≤ q) (h2 : q ≤ 24) (ns : List Int) (hl : ns.length ≤ 60) : fits q (townP q ns) = true := by
  unfold fits townP
  split
  · rename_i hq
    have e : (ns.map (mkPair q)).all (okPair q) = true := by
      rw [List.all_eq_true]
      intro p hp
      obtain ⟨c, _, rfl⟩ := List.mem_map.mp hp
      exact mkPair_ok q c hq
    simp [h1, h2, hl, e]
  · simp [h1, h2]
end XM
namespace L2
open PySem PySem.Spec PyProof.Rows XL

/-! ### an exception on its way -/
theorem ObjOk.there {P : Program} {w : World} {H : Hp} {h : Heap} {a : Addr} {o : HO} (x : ObjOk P w H h a o) : ∃ ob, h.get? a = some ob := by
  cases o with
  | lst xs => obtain ⟨_, _, _, _, e⟩ := x; exact ⟨_, e⟩
  | tup xs => obtain ⟨_, _, _, o, e, _⟩ := x; exact ⟨_, e⟩
  | dK kvs => obtain ⟨_, _, _, _, o, _, _, e, _⟩ := x; exact ⟨_, e⟩
  | dT kvs => obtain ⟨_, _, _, _, o, _, _, e, _⟩ := x; exact ⟨_, e⟩
  | set S n => obtain ⟨o, _, _, _, e, _⟩ := x; exact ⟨_, e⟩
  | ins C dx fs => obtain ⟨_, _, _, e, _⟩ := x; exact ⟨_, e⟩
  | own y => exact x
  | xd fs => obtain ⟨_, ⟨_, _, _, e, _⟩, _⟩ := x; exact ⟨_, e⟩
  | rng lo hi => obtain ⟨_, _, _, e⟩ := x; exact ⟨_, e⟩
  | frz ob u => exact ⟨_, x.1⟩
  | tbl ps => exact ⟨_, (show h.get? a = some _ from x)⟩
  | met f y => exact ⟨_, (show h.get? a = some _ from x)⟩
  | ext φ => exact x.2.1

/-- all that was there at s but the frames at l, and all that is tracked at H', stands in B as it stands at h -/
structure InB (l : List Env) (h0 : Heap) (H' : Hp) (h : Heap) (B : Heap) : Prop where
  old : ∀ b o₀ o, h0.get? b = some o₀ → b ∉ frs l → h.get? b = some o → B.get? b = some o
  trk : ∀ b u o, H' b = some u → h.get? b = some o → B.get? b = some o

/-- an exception at a of the class cls has left what was called at (H, s) and flies over the frames l -/
structure Fly (P : Program) (w : World) (l : List Env) (H : Hp) (s : Shared) (H' : Hp) (a : Addr) (cls : Value) (s' : Shared) : Prop where
  os : s'.os = s.os
  bare : AllBare s'.gens
  un : Un (frs l) [] H H' s.heap s'.heap
  hok : HOk P w H' s'.heap
  fl : ∃ (B : Heap) (t : Addr), Heap.FlyingW B l a cls (.ref t) s'.heap ∧ InB l s.heap H' s'.heap B
  fresh : H' a = none
  dict : ∃ oe, s'.heap.get? a = some oe ∧ oe.dict = none
def CXE (P : Program) (w : World) : CXT := fun l H s E e s' => ∃ (a : Addr) (cls : Value) (H' : Hp), e = .ref a ∧ Fly P w l H s H' a cls s' ∧ E cls none H'

/-- the heap goes on from h1 to h2: B stays, all else up to slots -/
theorem un_on {P : Program} {w : World} {l : List Env} {H H' : Hp} {h0 h1 h2 B : Heap} (f : Un (frs l) [] H H' h0 h1) (ok : HOk P w H' h1) (fr : ∀ b ∈ frs l, ∃ o, h1.get? b = some o ∧ ∀ vs, o.data ≠ .fields vs)
    (st : B.StaysIn h2) (up : h1.UpToSlots h2) (c : InB l h0 H' h1 B) : Un (frs l) [] H H' h0 h2 ∧ HOk P w H' h2 ∧ InB l h0 H' h2 B := by
  refine ⟨⟨fun b o e n hb hx => ?_, fun b o e n hb hx => ?_, f.free, fun b o e hx => ?_, f.tups, f.frzs, f.tbls⟩, fun b u e => ?_, ⟨fun b o₀ o e hb q => ?_, fun b u o e q => ?_⟩⟩
  · exact st _ _ (c.old b o o e hb (f.keep b o e n hb hx))
  · obtain ⟨sl, e1⟩ := f.slot b o e n hb hx
    obtain ⟨ob, eo, nf⟩ := fr b hb
    rw [e1] at eo
    cases eo
    obtain ⟨sl2, e2⟩ := up b _ e1 nf
    exact ⟨sl2, e2⟩
  · obtain ⟨o1, e1⟩ := f.there b o e hx
    by_cases hb : b ∈ frs l
    · obtain ⟨ob, eo, nf⟩ := fr b hb
      obtain ⟨sl2, e2⟩ := up b ob eo nf
      exact ⟨_, e2⟩
    · exact ⟨o1, st _ _ (c.old b o o1 e hb e1)⟩
  · refine (ok b u e).stay (fun d v hd q => st d v ?_) (fun _ q => q) fun _ _ q => q
    rcases hd with z | z
    · subst z
      exact c.trk d u v e q
    · exact c.trk d _ v z q
  · obtain ⟨o1, e1⟩ := f.there b o₀ e (by simp)
    have e2 := c.old b o₀ o1 e hb e1
    have e3 := st _ _ e2
    rw [q] at e3
    cases e3
    exact e2
  · obtain ⟨o1, e1⟩ := (ok b u e).there
    have e2 := c.trk b u o1 e e1
    have e3 := st _ _ e2
    rw [q] at e3
    cases e3
    exact e2

section
variable {X : Cx} {pins : List (Addr × Obj)} {σ : St} {H H' : Hp} {s s' : Shared} {a : Addr} {cls : Value} {M : Model} {E : Value → Shared → Prop}

/-- out of the frame: from over the stack to over the callers' -/
theorem fly_out {B : Heap} {t : Addr} (I : Inv X pins σ H s) (hex : X.ex = []) (os : s'.os = s.os) (bare : AllBare s'.gens) (un : Un (frs X.stack) [] H H' s.heap s'.heap) (hok : HOk X.prog X.w H' s'.heap)
    (fl : Heap.FlyingW B X.outer a cls (.ref t) s'.heap) (c : InB X.stack s.heap H' s'.heap B) (fresh : H' a = none) (dict : ∃ oe, s'.heap.get? a = some oe ∧ oe.dict = none) : Fly X.prog X.w X.outer X.H₀ X.s₀ H' a cls s' := by
  have J : Inv X pins σ H' s' := I.call' (ch := []) os un hok bare (fun _ z => nomatch z)
  have ub := J.base
  rw [hex] at ub
  refine ⟨J.os, bare, ub, hok, ⟨B, t, fl, ⟨fun b o₀ o e hb q => ?_, c.trk⟩⟩, fresh, dict⟩
  obtain ⟨o1, e1⟩ := I.base.there b o₀ e (by rw [hex]; simp)
  refine c.old b o1 o e1 (fun z => ?_) q
  rcases List.mem_cons.mp (I.stkSub b z) with z | z
  · exact absurd z (Nat.ne_of_lt (Nat.lt_of_lt_of_le (Heap.lt_size e) I.ok.above))
  · exact hb z

theorem frs_not_fields {l : List Env} {base h : Heap} (f : h.FunFrames base l) : ∀ b ∈ frs l, ∃ o, h.get? b = some o ∧ ∀ vs, o.data ≠ .fields vs := fun _ hb => (f.mem hb).2

/-- made on the spot: it leaves the frame -/
theorem raise_leaves {vs : List Value} {h' : Heap} {Q : Unit → Shared → Prop} (I : Inv X pins σ H s) (hex : X.ex = []) (hst : X.stack = X.env :: X.outer) (hf : X.env.frame = some X.env.locals) (hx : Heap.MadeExcOf s.heap h' a cls vs)
    (hQ : ∀ s'', Fly X.prog X.w X.outer X.H₀ X.s₀ H a cls s'' → Q () s'') : wpAny M X.A (leaving X.env (.ref a)) Q E { s with heap := h' } := by
  have hin : ∀ env ∈ X.stack, ∀ b, env.frame = some b → b ∈ frs X.stack := fun env he b hb => List.mem_filterMap.mpr ⟨env, he, hb⟩
  have hl : s.heap.FunFrames (PySem.W.hideAll s.heap (frs X.stack)) X.stack := PySem.W.funFrames_hide I.stack hin
  have hl' : s.heap.FunFrames (PySem.W.hideAll s.heap (frs X.stack)) (X.env :: X.outer) := by
    generalize PySem.W.hideAll s.heap (frs X.stack) = B at hl
    rw [hst] at hl
    exact hl
  have hfr := I.ok.frames
  rw [hst] at hfr
  refine wpAny_mono ((KD.leaving' X.env (.ref a)).any (wpAny_leaves_madeW (base := PySem.W.hideAll s.heap (frs X.stack)) (h := s.heap) (L := X.env.locals) (s := { s with heap := h' })
    (Q := fun _ s'' => ∃ h2 t, s'' = { s with heap := h2 } ∧ Heap.FlyingW (PySem.W.hideAll s.heap (frs X.stack)) X.outer a cls (.ref t) h2 ∧ h'.UpToSlots h2) hfr hf (fun b o q => PySem.W.of_hideAll _ q) hl' hx
    fun h2 t x1 _ _ x4 => ⟨h2, t, rfl, x1, x4⟩)) (fun _ s'' z => ?_) fun _ _ z => z
  obtain ⟨⟨h2, t, rfl, fl, up⟩, dk⟩ := z
  refine hQ _ ?_
  have c0 : InB X.stack s.heap H s.heap (PySem.W.hideAll s.heap (frs X.stack)) := ⟨fun b o₀ o _ hb q => PySem.W.hideAll_get _ q hb, fun b u o e q => PySem.W.hideAll_get _ q fun z => by
    have := I.stkFree b z
    rw [e] at this
    cases this⟩
  obtain ⟨u2, ok2, c2⟩ := un_on (P := X.prog) (w := X.w) (l := X.stack) (H := H) (H' := H) (h0 := s.heap) (h1 := s.heap) (h2 := h2) Un.refl I.hok (frs_not_fields hl) fl.1 ((Heap.UpToSlots.of_keeps hx.keeps).trans up) c0
  refine fly_out (s' := { s with heap := h2 }) I hex rfl I.bare u2 ok2 fl c2 ?_ ?_
  · cases q : H a with
    | none => rfl
    | some u =>
      obtain ⟨ob, e⟩ := (I.hok a u q).there
      have := hx.new
      rw [e] at this
      cases this
  · obtain ⟨t', he, _⟩ := hx.there
    obtain ⟨o', e', d'⟩ := dk a _ he
    exact ⟨o', e', d'⟩

/-- a callee's: it leaves this frame too -/
theorem pass_leaves {Q : Unit → Shared → Prop} (I : Inv X pins σ H s) (hex : X.ex = []) (hst : X.stack = X.env :: X.outer) (hf : X.env.frame = some X.env.locals) (f : Fly X.prog X.w X.stack H s H' a cls s')
    (hQ : ∀ s'', Fly X.prog X.w X.outer X.H₀ X.s₀ H' a cls s'' → Q () s'') : wpAny M X.A (leaving X.env (.ref a)) Q E s' := by
  obtain ⟨B, t, fl, c⟩ := f.fl
  have hfr := I.ok.frames
  rw [hst] at hfr
  have fl' := fl
  rw [hst] at fl'
  refine wpAny_mono ((KD.leaving' X.env (.ref a)).any (wpAny_leaves_onW (base := B) (L := X.env.locals) (s := s') (Q := fun _ s'' => ∃ h2, s'' = { s' with heap := h2 } ∧ Heap.FlyingW B X.outer a cls (.ref t) h2 ∧ s'.heap.UpToSlots h2) hfr hf fl'
    fun h2 x1 x2 => ⟨h2, rfl, x1, x2⟩)) (fun _ s'' z => ?_) fun _ _ z => z
  obtain ⟨⟨h2, rfl, fl2, up⟩, dk⟩ := z
  refine hQ _ ?_
  obtain ⟨u2, ok2, c2⟩ := un_on f.un f.hok (frs_not_fields fl.2.2.1) fl2.1 up c
  refine fly_out (s' := { s' with heap := h2 }) I hex f.os f.bare u2 ok2 fl2 c2 f.fresh ?_
  obtain ⟨oe, e, d⟩ := f.dict
  obtain ⟨o', e', d'⟩ := dk a oe e
  exact ⟨o', e', d'.trans d⟩

/-- over the same frames, further on -/
theorem Fly.on {l : List Env} {P : Program} {w : World} {B : Heap} {t : Addr} {h2 : Heap} (f : Fly P w l H s H' a cls s') (fl : Heap.FlyingW B l a cls (.ref t) s'.heap) (c : InB l s.heap H' s'.heap B) (fl2 : Heap.FlyingW B l a cls (.ref t) h2)
    (up : s'.heap.UpToSlots h2) (dk : DK s'.heap h2) : Fly P w l H s H' a cls { s' with heap := h2 } := by
  obtain ⟨u2, ok2, c2⟩ := un_on f.un f.hok (frs_not_fields fl.2.2.1) fl2.1 up c
  refine ⟨f.os, f.bare, u2, ok2, ⟨B, t, fl2, c2⟩, f.fresh, ?_⟩
  obtain ⟨oe, e, d⟩ := f.dict
  obtain ⟨o', e', d'⟩ := dk a oe e
  exact ⟨o', e', d'.trans d⟩

/-- it comes to a try of this frame -/
theorem catch_note {A : Around} {R : Shared → Prop} {env : Env} {outer : List Env} {L : Addr} {P : Program} {w : World} (hfr : A.frames = some (env :: outer)) (hf : env.frame = some L) (f : Fly P w (env :: outer) H s H' a cls s')
    (h : ∀ s5, Fly P w (env :: outer) H s H' a cls s5 → R s5) : wpAny M A (noteFrame (.ref a) env) (fun _ s₂ => wpAny M A (setFlight (.ref a) none) (fun _ s₃ => R s₃) E s₂) E s' := by
  obtain ⟨B, t, fl, c⟩ := f.fl
  refine wpAny_mono ((KD.noteFrame' (.ref a) env).any (wpAny_looks_onW (base := B) (L := L) (s := s') (Q := fun _ s2 => ∃ h2, s2 = { s' with heap := h2 } ∧ Heap.HeldW B (env :: outer) a cls (.ref t) L h2 ∧ s'.heap.UpToSlots h2) hfr hf fl
    fun h2 x1 x2 => ⟨h2, rfl, x1, x2⟩)) (fun _ s2 z => ?_) fun _ _ z => z
  obtain ⟨⟨h2, rfl, hd2, up2⟩, dk2⟩ := z
  refine wpAny_mono ((KD.setFlight' (.ref a) none).any (wpAny_landsW (s := { s' with heap := h2 }) (Q := fun _ s3 => ∃ h3, s3 = { s' with heap := h3 } ∧ Heap.FlyingW B (env :: outer) a cls (.ref t) h3 ∧ h2.UpToSlots h3) hd2
    fun h3 x1 x2 => ⟨h3, rfl, x1, x2⟩)) (fun _ s3 z => ?_) fun _ _ z => z
  obtain ⟨⟨h3, rfl, fl3, up3⟩, dk3⟩ := z
  exact h _ (f.on fl c fl3 (up2.trans up3) (dk2.trans dk3))
theorem catch_again {A : Around} {R : Shared → Prop} {l : List Env} {P : Program} {w : World} (f : Fly P w l H s H' a cls s')
    (h : ∀ s5, Fly P w l H s H' a cls s5 → R s5) : wpAny M A (setFlight (.ref a) none) (fun _ s₃ => R s₃) E s' := by
  obtain ⟨B, t, fl, c⟩ := f.fl
  refine wpAny_mono ((KD.setFlight' (.ref a) none).any (lands_againW (s := s') (Q := fun _ s3 => ∃ h3, s3 = { s' with heap := h3 } ∧ Heap.FlyingW B l a cls (.ref t) h3 ∧ s'.heap.UpToSlots h3) fl
    fun h3 x1 x2 => ⟨h3, rfl, x1, x2⟩)) (fun _ s3 z => ?_) fun _ _ z => z
  obtain ⟨⟨h3, rfl, fl3, up3⟩, dk3⟩ := z
  exact h _ (f.on fl c fl3 up3 dk3)

/-! ### an exception that was caught: what is known of its object -/
def excP (a : Addr) (cls : Value) (h : Heap) : Prop := ∃ oe vs, h.get? a = some oe ∧ oe.cls = cls ∧ oe.dict = none ∧ oe.data = .fields vs
def excO (a : Addr) (cls : Value) : HO := .ext (excP a cls)
theorem excO_ok {P : Program} {w : World} {H : Hp} {h : Heap} (x : excP a cls h) : ObjOk P w H h a (excO a cls) := by
  refine ⟨x, ?_, fun h1 h2 p k => ?_⟩
  · obtain ⟨oe, _, e, _⟩ := x
    exact ⟨oe, e⟩
  · obtain ⟨oe, vs, e, r⟩ := p
    exact ⟨oe, vs, k oe e, r⟩
theorem Inv.exc (I : Inv X pins σ H s) (e : H a = some (excO a cls)) : excP a cls s.heap := (show ObjOk X.prog X.w H s.heap a (excO a cls) from I.hok a _ e).1
theorem Fly.exc {l : List Env} {P : Program} {w : World} (f : Fly P w l H s H' a cls s') : excP a cls s'.heap := by
  obtain ⟨B, t, fl, _⟩ := f.fl
  obtain ⟨oe, vs, e, hc, hd, _⟩ := fl.first
  obtain ⟨o2, e2, d2⟩ := f.dict
  rw [e] at e2
  cases e2
  exact ⟨oe, vs, e, hc, d2, hd⟩

/-- an object that was not tracked is tracked -/
theorem Inv.track {o : HO} (I : Inv X pins σ H s) (hn : H a = none) (h0 : X.s₀.heap.get? a = none) (hL : a ≠ X.env.locals) (hC : ∀ x c, X.env.cells.lookup x = some c → c ≠ a) (hp : ∀ p ∈ X.pn ++ pins, p.1 ≠ a)
    (new : ObjOk X.prog X.w (upd H a o) s.heap a o) : Inv X pins σ (upd H a o) s := by
  refine ⟨I.ok, I.os, I.bare, ⟨I.base.keep, I.base.slot, fun b ob e n hx => ?_, I.base.there, fun b xs e => ?_, fun b u xs e => ?_, fun b ps e => ?_⟩, I.loc, I.cell, ?_, fun x c e => ?_, fun p hp' => ?_, fun b u e => ?_, I.len⟩
  · rw [upd_ne (fun z => by subst z; rw [h0] at e; cases e)]
    exact I.base.free b ob e n hx
  · rw [upd_ne (ne_of_none (I.base.tups b xs e) hn)]
    exact I.base.tups b xs e
  · rw [upd_ne (ne_of_none (I.base.frzs b u xs e) hn)]
    exact I.base.frzs b u xs e
  · obtain ⟨more, q⟩ := I.base.tbls b ps e
    exact ⟨more, by rw [upd_ne (ne_of_none q hn)]; exact q⟩
  · rw [upd_ne (Ne.symm hL)]
    exact I.free
  · rw [upd_ne (hC x c e)]
    exact I.freeC x c e
  · obtain ⟨e, n, r⟩ := I.pin p hp'
    exact ⟨e, by rw [upd_ne (hp p hp')]; exact n, r⟩
  · by_cases hb : b = a
    · subst hb
      rw [upd_same] at e
      cases e
      exact new
    · rw [upd_ne hb] at e
      exact (I.hok b u e).stay (fun _ _ _ q => q) (fun c q => by rw [upd_ne (ne_of_none q hn)]; exact q) fun c xs q => by rw [upd_ne (ne_of_none q hn)]; exact q

/-- caught: the frame as it was at the call, the exception tracked -/
theorem Fly.inv (I : Inv X pins σ H s) (hex : X.ex = []) (f : Fly X.prog X.w X.stack H s H' a cls s') : Inv X pins σ (upd H' a (excO a cls)) s' := by
  have J : Inv X pins σ H' s' := I.call' (ch := []) f.os f.un f.hok f.bare (fun _ z => nomatch z)
  obtain ⟨B, t, fl, c⟩ := f.fl
  obtain ⟨oe, vs, e, hc, hdn, hd⟩ := f.exc
  have hBa : B.get? a = none := fl.2.1
  have nfr : a ∉ frs X.stack := fun z => by
    obtain ⟨o, ho, nf⟩ := (fl.2.2.1.mem z).2
    rw [e] at ho
    cases ho
    exact nf vs hd
  have nold : ∀ b o, s.heap.get? b = some o → b ∉ frs X.stack → b ≠ a := fun b o eb hb z => by
    subst z
    have := c.old b o oe eb hb e
    rw [hBa] at this
    cases this
  refine J.track f.fresh ?_ ?_ (fun x d ed z => ?_) (fun p hp z => ?_) (excO_ok f.exc)
  · cases q : X.s₀.heap.get? a with
    | none => rfl
    | some o0 =>
      obtain ⟨o1, e1⟩ := I.base.there a o0 q (by rw [hex]; simp)
      exact absurd rfl (nold a o1 e1 nfr)
  · intro z
    obtain ⟨m, ⟨o, es, ep, ho, hdd, _⟩, _⟩ := J.loc
    rw [← z, e] at ho
    cases ho
    rw [hd] at hdd
    cases hdd
  · obtain ⟨v, o, ho, hdd⟩ := J.cell x d ed
    rw [z, e] at ho
    cases ho
    rw [hd] at hdd
    cases hdd
  · obtain ⟨ep, _, nl, nf, _⟩ := I.pin p hp
    refine nold p.1 p.2 ep (fun q => ?_) z
    rcases List.mem_cons.mp (I.stkSub _ q) with q | q
    · exact nl q
    · exact nf q
end
end L2
namespace L2
open PySem PySem.Spec PyProof.Rows XL

/-! ### where an exception may leave -/
/-- what X wants of an exception is E's wish behind its frame (a def's body) -/
structure Lets (X : Cx) (E : XK) : Prop where
  ex : X.ex = []
  st : X.stack = X.env :: X.outer
  fr : X.env.frame = some X.env.locals
  xe : ∀ (e : Value) (s' : Shared), wpAny (model X.prog X.w) X.A (leaving X.env e) (fun _ s'' => CXE X.prog X.w X.outer X.H₀ X.s₀ E e s'') (fun e' s'' => CXE X.prog X.w X.outer X.H₀ X.s₀ E e' s'') s' → X.xe e s'
  po : PassesOwn (model X.prog X.w) X.A X.env X.xe
theorem lets_cx {P : Program} {w : World} {K : PySem.W.Frag} {mg : Str → Option Value} {base : Heap} {N : List Str} {qual : Str} {scope : Scope} {f : Addr} {cd : Value} {A : Around} {outer : List Env} {s : Shared} {H : Hp} {E : XK} :
    Lets (cxOf (CXE P w) P w K mg base N qual scope f cd A outer s H E) E := ⟨rfl, rfl, rfl, fun _ _ h => h, PassesOwn.leaving⟩
theorem Lets.pass {X : Cx} {E : XK} (l : Lets X E) : Passes (CXE X.prog X.w) X E := fun pins σ H s e s' I h => by
  obtain ⟨a, cls, H', rfl, f, q⟩ := h
  exact l.xe _ _ (pass_leaves I l.ex l.st l.fr f fun s'' g => ⟨a, cls, H', rfl, g, q⟩)

/-! ### raise C(..) -/
/-- an own error class over a built-in one -/
structure Err (K : PySem.W.Frag) (C : Addr) (B newId initId : String) (bmB : List Value) : Prop where
  ok : PySem.W.excIn K C bmB newId = true
  base : ExcBaseFacts B newId initId bmB
theorem Err.obj {K : PySem.W.Frag} {C : Addr} {B newId initId : String} {bmB : List Value} (c : Err K C B newId initId bmB) {h : Heap} (X : K.In h) :
    ∃ bm N nm q bs hdct sn sub ab col dd k0 k1 k2 k3 k5 mN, h.get? C = some (excClassObj nm q C N bs bm hdct sn sub ab col dd k0 k1 k2 k3 k5 newId) ∧ h.Ns N mN ∧ mN "__init__" = none ∧ OwnTail h bmB bm := by
  have q := c.ok
  unfold PySem.W.excIn at q
  split at q
  · rename_i dd cd sl ho
    split at q
    · rename_i C' bm k0 k1 k2 k3 n k5 hm hs
      simp only [Bool.and_eq_true, beq_iff_eq, Bool.not_eq_true'] at q
      obtain ⟨⟨⟨⟨⟨rfl, rfl⟩, hdel⟩, ht⟩, hok⟩, hni⟩ := q
      obtain ⟨nm, bs, mro, ns, qn, hd, sn, sub, ab, col, del⟩ := cd
      dsimp only at hm hdel hok hni
      subst hm hdel
      have hsl : sl = #[k0, k1, k2, k3, some (.builtin n), k5] := by
        obtain ⟨l⟩ := sl
        simp only at hs
        rw [hs]
      subst hsl
      exact ⟨bm, ns, nm, qn, bs, hd, sn, sub, ab, col, dd, k0, k1, k2, k3, k5, _, X _ _ ho, .of_isNs (PySem.W.isNs_of_in X hok), PySem.W.nsMap_none_of_in X hok hni, PySem.W.tail_of_in X ht⟩
    · cases q
  · cases q

section
variable {X : Cx} {E : XK} {C : Addr} {B newId initId : String} {bmB : List Value} {x : Str} {np cpos pos : Pos} {e₀ : Expr} {rest : List Expr} {t : TA}
/-- raise C(e, ..): the reading: the arguments, then E's wish -/
def tRaise (C : Addr) (E : XK) (t : TA) : TS := fun _ σ H => t σ H fun vs H1 => vs.length ≤ sizeLine ∧ E (.ref C) none H1
theorem ps_raise (l : Lets X E) (c : Err X.K C B newId initId bmB) (hh : X.A.handled = none) (hg : Gl X x) (hm : X.mg x = some (.ref C)) (ha : PA X (e₀ :: rest) t)
    (he : starEach (e₀ :: rest) X.env = (false, eval e₀ X.env) :: starEach rest X.env := by rfl) (hplain : (backTo cpos (starEach rest X.env)).any (·.1) = false := by rfl) (hd : (x == ("__debug__" : Str)) = false := by decide) :
    PS X (.Raise (some (.Call (.Name x np) (e₀ :: rest) [] cpos)) none pos) (tRaise C E t) := by
  intro pins s σ H D I h
  obtain ⟨tl, N, nm, q, bs, hdct, sn, sub, ab, col, dd, k0, k1, k2, k3, k5, mN, hC, hN, hni, T⟩ := c.obj I.ok.mod.kin
  refine wpAny_Raise_call_subT (C := C) (nm := nm) (q := q) (N := N) (bs := bs) (bm := tl) (hdct := hdct) (sn := sn) (sub := sub) (ab := ab) (col := col) (dd := dd) (k0 := k0) (k1 := k1) (k2 := k2) (k3 := k3) (k5 := k5)
    c.base (mN := mN) (T.hasType c.base.hasBase) hh (by rw [he]; show (false || (backTo cpos (starEach rest X.env)).any (·.1)) = false; rw [hplain]; rfl) hni (ld_glob I hg hm ⟨rfl, ?_⟩ hd)
  have hv := ha cpos pins s σ H _ I h
  rw [he] at hv ⊢
  refine Calls.evalArgs_plain (wpAny_mono hv (fun us s2 z => ?_) fun _ _ y => y)
  obtain ⟨vs, H1, I1, r, hz, hE⟩ := z
  exact ⟨rfl, by show us.length ≤ sizeLine; rw [← r.length]; exact hz, I1.bk _ _ hC, hN.keeps I1.bk, T.keeps I1.bk, fun h' e hm => l.xe _ _ (raise_leaves I1 l.ex l.st l.fr hm fun s'' g => ⟨e, _, H1, rfl, g, hE⟩)⟩
end

/-! ### a def that may raise -/
section
variable {P : Program} {w : World} {K : PySem.W.Frag} {mg : Str → Option Value} {base : Heap}
theorem Fun.okE {x qual : Str} {st : Stmt} {f : Addr} {fd : FuncData} {N ps : List Str} {k : Nat} {sp : Sp} (F : Fun K x qual st f fd) (S : FnScope N ps (defScope st)) (len : ∀ vs H Q E, sp vs H Q E → vs.length = ps.length)
    (hbody : ∀ (cdv : Value) (A : Around) (outer : List Env) (s : Shared) (H : Hp) (vs : List V) (Q : VK) (E : XK), Room k (A.deeper (envOfC qual (defScope st) s.heap.objs.size f cdv)) → sp vs H Q E →
      ∃ t, PSs (cxOf (CXE P w) P w K mg base N qual (defScope st) f cdv A outer s H E) (defBody st) t ∧ t { nx := fun _ H' => Q .non H', rt := Q } (start N vs) H) : FnOk P w K mg base (CXE P w) (k + 1) f fd ps sp := by
  obtain ⟨oc, od, kV, doc, pm, an, cdv, ct, osl, rfl, lk, hcd⟩ := F.ex
  exact fn_of lk hcd S len fun A outer s H vs Q E hr hsp => hbody cdv A outer s H vs Q E hr hsp
end

/-! ### try .. except C as n -/
abbrev Cx.hand (X : Cx) (v : Value) : Cx := { X with A := X.A.mark (some v), calm := false, xe := fun _ _ => False }
theorem Cx.Ok.hand {X : Cx} (ok : X.Ok) (v : Value) : (X.hand v).Ok :=
  ⟨ok.mod, ok.kind, ok.glob, ok.blt, ok.above, ok.inj, ok.has, ok.cab, (fun h => Bool.noConfusion h), ok.frames, ok.stk, ok.exf, ok.bs, ok.bsz, ok.noex, ok.exfs, ok.funs, ok.frf⟩
abbrev Cx.pinned (X : Cx) (pn : List (Addr × Obj)) : Cx := { X with pn := X.pn ++ pn }
abbrev Cx.tryC (X : Cx) (pn : List (Addr × Obj)) (σ₀ : St) (E : XK) : Cx :=
  { X with pn := X.pn ++ pn, xe := fun e s' => ∃ (H1 : Hp) (s1 : Shared), Inv (X.pinned pn) [] σ₀ H1 s1 ∧ CXE X.prog X.w X.stack H1 s1 E e s' }
section
variable {X : Cx} {pins : List (Addr × Obj)} {σ : St} {H H' : Hp} {s s' : Shared}
theorem Inv.hand (I : Inv X pins σ H s) (v : Value) : Inv (X.hand v) pins σ H s := ⟨I.ok.hand v, I.os, I.bare, I.base, I.loc, I.cell, I.free, I.freeC, I.pin, I.hok, I.len⟩
theorem Inv.unhand {v : Value} (I : Inv (X.hand v) pins σ H s) (ok : X.Ok) : Inv X pins σ H s := ⟨ok, I.os, I.bare, I.base, I.loc, I.cell, I.free, I.freeC, I.pin, I.hok, I.len⟩
theorem Inv.toTry {σ₀ : St} {E : XK} (I : Inv X pins σ H s) : Inv (X.tryC pins σ₀ E) [] σ H s :=
  ⟨⟨I.ok.mod, I.ok.kind, I.ok.glob, I.ok.blt, I.ok.above, I.ok.inj, I.ok.has, I.ok.cab, I.ok.hd, I.ok.frames, I.ok.stk, I.ok.exf, I.ok.bs, I.ok.bsz, I.ok.noex, I.ok.exfs, I.ok.funs, I.ok.frf⟩,
    I.os, I.bare, I.base, I.loc, I.cell, I.free, I.freeC, (fun p hp => I.pin p (by rw [List.append_nil] at hp; exact hp)), I.hok, I.len⟩
theorem Inv.ofTry {σ₀ : St} {E : XK} (I : Inv (X.tryC pins σ₀ E) [] σ H s) (ok : X.Ok) : Inv X pins σ H s :=
  ⟨ok, I.os, I.bare, I.base, I.loc, I.cell, I.free, I.freeC, (fun p hp => I.pin p (by rw [List.append_nil]; exact hp)), I.hok, I.len⟩
theorem Inv.ofPin (I : Inv (X.pinned pins) [] σ H s) (ok : X.Ok) : Inv X pins σ H s :=
  ⟨ok, I.os, I.bare, I.base, I.loc, I.cell, I.free, I.freeC, (fun p hp => I.pin p (by rw [List.append_nil]; exact hp)), I.hok, I.len⟩

/-- an exception of a callee that is called at the very names' values σ₀ -/
def PassesAt (CX : CXT) (X : Cx) (σ₀ : St) (E : XK) : Prop := ∀ (pins : List (Addr × Obj)) (H : Hp) (s : Shared) (e : Value) (s' : Shared), Inv X pins σ₀ H s → CX X.stack H s E e s' → X.xe e s'
theorem passTry {pn : List (Addr × Obj)} {σ₀ : St} {E : XK} : PassesAt (CXE X.prog X.w) (X.tryC pn σ₀ E) σ₀ E := fun pins H s e s' I h =>
  ⟨H, s, ⟨⟨I.ok.mod, I.ok.kind, I.ok.glob, I.ok.blt, I.ok.above, I.ok.inj, I.ok.has, I.ok.cab, I.ok.hd, I.ok.frames, I.ok.stk, I.ok.exf, I.ok.bs, I.ok.bsz, I.ok.noex, I.ok.exfs, I.ok.funs, I.ok.frf⟩,
    I.os, I.bare, I.base, I.loc, I.cell, I.free, I.freeC, (fun p hp => I.pin p (by rw [List.append_nil] at hp; exact List.mem_append_left _ hp)), I.hok, I.len⟩, h⟩

/-- the name goes -/
theorem gone_ok {M : Model} {A : Around} {E : Value → Shared → Prop} {i : Nat} {x : Str} {pos : Pos} {Q : Unit → Shared → Prop} (I : Inv X pins σ H s) (hN : X.N.Nodup) (hi : X.N[i]? = some x) (hk : X.env.scope.names.lookup x = some .local)
    (h : ∀ s', Inv X pins (σ.set i none) H s' → Q () s') : wpAny M A (do bindName X.env x .none; unbindBehindTheSuite X.env x pos) Q E s := by
  obtain ⟨m, hn, hl⟩ := id I.loc
  have hcls : (X.env.scope.kind == .class || (X.env.scope.kind == .module && X.env.locals != X.env.globals)) = false := by rw [I.ok.kind]; rfl
  refine wpAny_nameGoes_keeps hk hn hcls fun h' v hn' hs => h _ ?_
  have other : ∀ b o, s.heap.get? b = some o → b ≠ X.env.locals → h'.get? b = some o := fun b o e q => (hs.2 b q).trans e
  have neL : ∀ b o, X.s₀.heap.get? b = some o → b ≠ X.env.locals := fun b o e => Nat.ne_of_lt (Nat.lt_of_lt_of_le (Heap.lt_size e) I.ok.above)
  have trk : ∀ b u, H b = some u → b ≠ X.env.locals := fun b u e z => by rw [z, I.free] at e; cases e
  refine ⟨I.ok, I.os, I.bare, ⟨fun b o e n hb hx => ?_, fun b o e n hb hx => ?_, I.base.free, fun b o e hx => ?_, I.base.tups, I.base.frzs, I.base.tbls⟩, ⟨_, hn', fun j y v' e1 e2 e3 => ?_⟩, fun y c e => ?_, I.free, I.freeC, fun p hp => ?_, fun b u e => ?_, ?_⟩
  · exact other b o (I.base.keep b o e n hb hx) (neL b o e)
  · obtain ⟨sl, e1⟩ := I.base.slot b o e n hb hx
    exact ⟨sl, other b _ e1 (neL b o e)⟩
  · obtain ⟨o', e1⟩ := I.base.there b o e hx
    exact ⟨o', other b o' e1 (neL b o e)⟩
  · have hj : j ≠ i := fun z => by
      subst z
      rw [List.getElem?_set] at e2
      simp at e2
    rw [List.getElem?_set_ne (Ne.symm hj)] at e2
    obtain ⟨u', r', q⟩ := hl j y v' e1 e2 e3
    refine ⟨u', r', ?_⟩
    rcases q with ⟨k, e⟩ | ⟨k, c, e, z⟩
    · refine .inl ⟨k, ?_⟩
      have ne : y ≠ x := fun e => hj (nodup_ix hN e1 (e ▸ hi))
      simp [ne, e]
    · exact .inr ⟨k, c, e, z.sameBut hs (I.cne y c e)⟩
  · obtain ⟨w', z⟩ := I.cell y c e
    exact ⟨w', z.sameBut hs (I.cne y c e)⟩
  · obtain ⟨e, n, ne, nf, d⟩ := I.pin p hp
    exact ⟨other p.1 p.2 e ne, n, ne, nf, d⟩
  · refine (I.hok b u e).stay (fun c w' hc q => other c w' q ?_) (fun _ q => q) fun _ _ q => q
    rcases hc with z | z
    · subst z
      exact trk c u e
    · exact trk c _ z
  · simpa using I.len
end

/-- the class at D is one that an except may name -/
structure Named (K : PySem.W.Frag) (D : Addr) : Prop where
  cls : (PySem.W.clsIn K D).isSome = true
  ty : PySem.W.typeIn K (.ref D) = some (.type "type")
  exc : PySem.W.mroIn K D (.type "BaseException") = some true
theorem exc_hit {K : PySem.W.Frag} {M : Model} {A : Around} {E : Value → Shared → Prop} {s : Shared} {a C D : Addr} {r : Bool} {Q : Bool → Shared → Prop} (X : K.In s.heap) (n : Named K D) (p : excP a (.ref C) s.heap) (hm : PySem.W.mroIn K C (.ref D) = some r) (h : Q r s) :
    wpAny M A (excMatches (.ref a) (.ref D)) Q E s := by
  obtain ⟨oe, vs, e, hc, _⟩ := p
  have L0 : PySem.W.Looks M s.heap (typeOf (.ref D)) (.type "type") := PySem.W.looks_typeIn X n.ty
  have L1 : PySem.W.Looks M s.heap (isInstance (.ref D) (.type "tuple")) false := L0.andThen (PySem.W.Looks.of_pure tc_notTuple)
  have L2 : PySem.W.Looks M s.heap (isType (.ref D)) true := by
    have hcD := n.cls
    unfold PySem.W.clsIn at hcD
    split at hcD
    · rename_i c' d' cd' sl' ho
      intro A' Q' E' s' k q
      unfold isType loadHead
      exact wpAny_bind (wpAny_loadPart (k _ _ (X _ _ ho)) (wpAny_pure q))
    · cases hcD
  have L3 : PySem.W.Looks M s.heap (isExcClass (.ref D)) true := by
    unfold isExcClass
    exact L2.andThen (by rw [if_pos rfl]; exact PySem.W.looks_mroIn X n.exc)
  have L4 : PySem.W.Looks M s.heap (typeOf (.ref a)) (.ref C) := hc ▸ (PySem.W.Looks.ld e).andThen .now
  have L5 : PySem.W.Looks M s.heap (isSubtype (.ref C) (.ref D)) r := PySem.W.looks_mroIn X hm
  unfold excMatches
  refine wpAny_bind (L1.here ?_)
  simp only [Bool.false_eq_true, if_false, List.forIn_cons, List.forIn_nil]
  refine wpAny_bind (wpAny_pure ?_)
  refine wpAny_bind (wpAny_bind (wpAny_bind (L3.here ?_)))
  simp only [Bool.not_true, Bool.false_eq_true, if_false]
  refine wpAny_pure (wpAny_pure ?_)
  refine wpAny_bind (L4.here (wpAny_bind ?_))
  rw [List.forIn_cons]
  refine wpAny_bind (wpAny_bind (L5.here ?_))
  cases r with
  | true => exact wpAny_pure (wpAny_pure (wpAny_pure h))
  | false => exact wpAny_pure (wpAny_pure (wpAny_pure h))

/-- the reading: the body's, where an exception of a class that stands under D goes to the suite -/
def tTry (K : PySem.W.Frag) (D : Addr) (i : Nat) (tb : St → XK → TS) (ts : TS) : TS := fun G σ H =>
  tb σ (fun cls _ H' => ∃ C, cls = .ref C ∧ PySem.W.mroIn K C (.ref D) = some true ∧ ∀ a, H' a = none →
    ts { nx := fun σ' H2 => G.nx (σ'.set i none) H2, rt := G.rt, bk := fun σ' H2 => G.bk (σ'.set i none) H2, ct := fun σ' H2 => G.ct (σ'.set i none) H2 } (σ.set i (some (.ref a))) (upd H' a (excO a cls))) G σ H
theorem ps_try {X : Cx} {body suite : List Stmt} {b₀ : Stmt} {x n : Str} {i : Nat} {np hpos pos : Pos} {D : Addr} {tb : St → XK → TS} {ts : TS} (hex : X.ex = []) (hst : X.stack = X.env :: X.outer) (hfr : X.env.frame = some X.env.locals)
    (hb : ∀ pn σ₀ E, PSs (X.tryC pn σ₀ E) body (tb σ₀ E)) (hs : ∀ v, PSs (X.hand v) (b₀ :: suite) ts) (hN : X.N.Nodup) (hi : X.N[i]? = some n) (hk : X.env.scope.names.lookup n = some .local) (hg : Gl X x) (hm : X.mg x = some (.ref D)) (hD : Named X.K D)
    (hd : (x == ("__debug__" : Str)) = false := by decide) (hf : X.fn n = true ∨ X.env.scope.names.lookup n = some .local := by first | exact .inl rfl | exact .inr rfl | assumption) :
    PS X (.Try body [.ExceptHandler (some (.Name x np)) (some n) (b₀ :: suite) hpos] [] [] pos) (tTry X.K D i tb ts) := by
  intro pins s σ H G I h
  refine wpAny_Try_except (wpAny_mono (hb pins σ _ [] s σ H G I.toTry h) (fun f s1 z => ?_) fun e s1 z => ?_)
  · cases f with
    | next =>
      obtain ⟨σ', H', J, q⟩ := z
      exact pss_nil (X := X) pins s1 σ' H' G (J.ofTry I.ok) q
    | brk =>
      obtain ⟨σ', H', J, q⟩ := z
      exact ⟨σ', H', J.ofTry I.ok, q⟩
    | cont =>
      obtain ⟨σ', H', J, q⟩ := z
      exact ⟨σ', H', J.ofTry I.ok, q⟩
    | ret u =>
      obtain ⟨v, σ', H', J, r, q⟩ := z
      exact ⟨v, σ', H', J.ofTry I.ok, r, q⟩
  · obtain ⟨H1, s2, J0, a, cls, H', rfl, f, C, rfl, hsub, hq⟩ := z
    have J : Inv X pins σ H1 s2 := J0.ofPin I.ok
    have hfrm := I.ok.frames
    rw [hst] at hfrm f
    refine catch_note hfrm hfr f fun s3 f3 => ?_
    have f3' := f3
    rw [← hst] at f3'
    have I3 := Fly.inv J hex f3'
    refine wpAny_handleBy_cons (codeAny_handlers_test (ld_glob (I3.hand (.ref a)) hg hm (exc_hit I3.kIn hD f3.exc hsub ?_) hd)) (by intro q; cases q)
    refine codeAny_handlers_suite_as (catch_again f3 fun s4 f4 => ?_)
    have f4' := f4
    rw [← hst] at f4'
    refine store_ok (v := .ref a) (Fly.inv J hex f4') hN hi (.inl hk) rfl (fun s5 I5 => ?_) hf
    refine wpAny_mono (hs (.ref a) pins s5 _ _ _ (I5.hand (.ref a)) (hq a f3.fresh)) (fun fl s6 z => ?_) fun _ _ z => z.elim
    have go : ∀ {σ' : St} {H2 : Hp} {Q : Unit → Shared → Prop}, Inv (X.hand (.ref a)) pins σ' H2 s6 → (∀ s7, Inv X pins (σ'.set i none) H2 s7 → Q () s7) → wpAny (model X.prog X.w) X.A (do bindName X.env n .none; unbindBehindTheSuite X.env n hpos) Q X.xe s6 :=
      fun J6 k => gone_ok (J6.unhand I.ok) hN hi hk k
    cases fl with
    | next =>
      obtain ⟨σ', H2, J6, q⟩ := z
      exact go J6 fun s7 J7 => ⟨_, H2, J7, q⟩
    | brk =>
      obtain ⟨σ', H2, J6, q⟩ := z
      exact go J6 fun s7 J7 => ⟨_, H2, J7, q⟩
    | cont =>
      obtain ⟨σ', H2, J6, q⟩ := z
      exact go J6 fun s7 J7 => ⟨_, H2, J7, q⟩
    | ret u =>
      obtain ⟨v, σ', H2, J6, r, q⟩ := z
      exact go J6 fun s7 J7 => ⟨v, _, H2, J7, r, q⟩

/-! ### calls in a try's body: at the very names' values -/
section
variable {X : Cx} {CX : CXT} {k : Nat} {f C : Addr} {fd : FuncData} {ps : List Str} {sp : Sp} {dvs : List V} {ds : List Value} {E : XK} {x : Str} {p pos : Pos} {e : Expr} {es : List Expr} {t : TA} {σ₀ : St}
def tAt (σ₀ : St) (t : TE) : TE := fun σ H Q => σ = σ₀ ∧ t σ H Q
theorem run_fnAt {pins : List (Addr × Obj)} {H : Hp} {s : Shared} {Q : VK} {us : List Value} {vs : List V} (F : FnOk X.prog X.w X.K X.mg X.base CX k f fd ps sp) (hr : Room k X.A) (hb : Binds X.K fd ps ds) (hd : Vals dvs ds) (hx : PassesAt CX X σ₀ E)
    (I : Inv X pins σ₀ H s) (r : Vals vs us) (h : sp (vs ++ dvs) H Q E) : wpAny (model X.prog X.w) X.A (call (.ref f) us) (EP X pins σ₀ Q) X.xe s := by
  have r2 : Vals (vs ++ dvs) (us ++ ds) := r.append hd
  have hl : (us ++ ds).length = ps.length := by rw [← r2.length]; exact F.len _ _ _ _ h
  refine wpAny_call (codeAny_mono (F.run X.A X.stack s H ⟨us, []⟩ (us ++ ds) (vs ++ dvs) Q E hr I.env0 (hb s us I.kIn hl) r2 h) fun r s' hq => ?_)
  cases r with
  | error e => exact hx pins H s e s' I hq
  | ok fl =>
    cases fl with
    | ret u => exact I.after hq
    | next => exact False.elim hq
    | brk => exact False.elim hq
    | cont => exact False.elim hq
theorem pe_callAt (F : FnOk X.prog X.w X.K X.mg X.base CX k f fd ps sp) (hr : Room k X.A) (hg : Gl X x) (hm : X.mg x = some (.ref f)) (hk : PySem.W.keepIn X.K (.ref f) = true) (hb : Binds X.K fd ps ds) (hd : Vals dvs ds) (hx : PassesAt CX X σ₀ E)
    (ha : PA X (e :: es) t) (hdb : (x == ("__debug__" : Str)) = false := by decide) (he : starEach (e :: es) X.env = (false, eval e X.env) :: starEach es X.env := by rfl) (hpl : (backTo pos (starEach es X.env)).any (·.1) = false := by rfl) :
    PE X (.Call (.Name x p) (e :: es) [] pos) (tAt σ₀ (tCall sp dvs E t)) := by
  rintro pins s σ H Q I ⟨rfl, h⟩
  refine wpAny_Call_Name_kw (ld_glob I hg hm ?_ hdb)
  refine PySem.W.callWith_K (h₀ := X.base) I.ok.mod.kin hk (thn (ha pos pins s σ H _ I h) fun us s1 ⟨vs, H1, I1, r, q⟩ => ⟨I1.kIn, ?_⟩) he hpl
  exact run_fnAt F hr hb hd hx I1 r q
end

/-! ### deep data: ==, != -/
/-- what data a value is -/
inductive Den (K : PySem.W.Frag) (H : Hp) : V → PyData → Prop
  | non : Den K H .non .none
  | bl (b : Bool) : Den K H (.bl b) (.bool b)
  | int (i : Int) : Den K H (.int i) (.int i)
  | str (x : Str) : Den K H (.str x) (.str x)
  | lst {a : Addr} {xs : List V} {ds : List PyData} (h : SqL K H a xs) (hl : xs.length = ds.length) (r : ∀ (i : Nat) x d, xs[i]? = some x → ds[i]? = some d → Den K H x d) : Den K H (.ref a) (.list ds)
  | tup {a : Addr} {xs : List V} {ds : List PyData} (h : SqT K H a xs) (hl : xs.length = ds.length) (r : ∀ (i : Nat) x d, xs[i]? = some x → ds[i]? = some d → Den K H x d) : Den K H (.ref a) (.tuple ds)
theorem readsAll_of {h : Heap} : ∀ {us : List Value} {ds : List PyData}, us.length = ds.length → (∀ (i : Nat) u d, us[i]? = some u → ds[i]? = some d → ∃ as, Reads h u d as) → ∃ as, ReadsAll h us ds as
  | [], [], _, _ => ⟨_, .nil⟩
  | [], _ :: _, e, _ => by simp at e
  | _ :: _, [], e, _ => by simp at e
  | u :: us, d :: ds, e, k => by
    obtain ⟨as, r⟩ := k 0 u d rfl rfl
    obtain ⟨bs, q⟩ := readsAll_of (us := us) (ds := ds) (by simpa using e) fun i v c h1 h2 => k (i + 1) v c (by simpa using h1) (by simpa using h2)
    exact ⟨_, .cons r q⟩
theorem Den.reads {X : Cx} {pins : List (Addr × Obj)} {σ : St} {H : Hp} {s : Shared} (I : Inv X pins σ H s) {x : V} {d : PyData} (D : Den X.K H x d) : ∀ {u : Value}, RelV x u → ∃ as, Reads s.heap u d as := by
  induction D with
  | non => intro u r; cases (show u = Value.none from r); exact ⟨_, .none⟩
  | bl b => intro u r; cases (show u = Value.bool b from r); exact ⟨_, .bool b⟩
  | int i => intro u r; obtain ⟨t, q⟩ := (show ∃ t, u = Value.int i t from r); cases q; exact ⟨_, .int i t⟩
  | str y => intro u r; obtain ⟨t, q⟩ := (show ∃ t, u = Value.str y t from r); cases q; exact ⟨_, .str y t⟩
  | @lst a xs ds h hl r ih =>
    intro u ru
    cases (show u = Value.ref a from ru)
    obtain ⟨its, hv, pl, _⟩ := I.list h
    have hlen := hv.length
    obtain ⟨as, q⟩ := readsAll_of (h := s.heap) (us := its) (ds := ds) (by omega) fun i v d h1 h2 => by
      have hx : i < xs.length := by have := (List.getElem?_eq_some_iff.mp h1).1; omega
      obtain ⟨v', e', rv⟩ := hv.get (List.getElem?_eq_getElem hx)
      rw [h1] at e'
      cases e'
      exact ih i _ d (List.getElem?_eq_getElem hx) h2 rv
    obtain ⟨o, ho, hc, n, hd⟩ := pl.isList
    exact ⟨_, .list ho hc hd (by simpa using q)⟩
  | @tup a xs ds h hl r ih =>
    intro u ru
    cases (show u = Value.ref a from ru)
    obtain ⟨its, hv, pl, _⟩ := I.tuple h
    have hlen := hv.length
    obtain ⟨as, q⟩ := readsAll_of (h := s.heap) (us := its) (ds := ds) (by omega) fun i v d h1 h2 => by
      have hx : i < xs.length := by have := (List.getElem?_eq_some_iff.mp h1).1; omega
      obtain ⟨v', e', rv⟩ := hv.get (List.getElem?_eq_getElem hx)
      rw [h1] at e'
      cases e'
      exact ih i _ d (List.getElem?_eq_getElem hx) h2 rv
    obtain ⟨o, ho, hc, n, hd⟩ := pl
    exact ⟨_, .tuple ho hc hd (by simpa using q)⟩
def rDen (K : PySem.W.Frag) (f : Bool → Bool) : R2 := fun x y H Q => ∃ d e, Den K H x d ∧ Den K H y e ∧ SeqAt.shaped d = true ∧ SeqAt.shaped e = true ∧ Q (.bl (f (PyData.eqv d e))) H
theorem op_eqD {X : Cx} (hu : X.A.units + 64 < cLine) : OpR X (compareOp .Eq) (rDen X.K fun b => b) := by
  rintro pins s σ H x y v u Q I rx ry ⟨d, e, D1, D2, s1, s2, q⟩
  obtain ⟨as, r1⟩ := D1.reads I rx
  obtain ⟨bs, r2⟩ := D2.reads I ry
  exact eq_dataH r1 r2 s1 s2 hu ⟨.bl _, H, I, rfl, q⟩
theorem op_neD {X : Cx} (hu : X.A.units + 64 < cLine) : OpR X (compareOp .NotEq) (rDen X.K fun b => !b) := by
  rintro pins s σ H x y v u Q I rx ry ⟨d, e, D1, D2, s1, s2, q⟩
  obtain ⟨as, r1⟩ := D1.reads I rx
  obtain ⟨bs, r2⟩ := D2.reads I ry
  exact ne_dataH r1 r2 s1 s2 hu ⟨.bl _, H, I, rfl, q⟩

/-! ### isinstance(x, C) -/
/-- a class as a value -/
def clsV : V → Option Value
  | .ty n => some (.type n)
  | .ref a => some (.ref a)
  | _ => none
theorem clsV_rel {y : V} {c u : Value} (h : clsV y = some c) (r : RelV y u) : u = c := by
  cases y <;> first | (cases h; exact r) | cases h
theorem call_isi {X : Cx} : CallR X (.builtin "isinstance") (fun xs H Q => ∃ x y c t b, xs = [x, y] ∧ clsV y = some c ∧ TyOf X.K H x t ∧ PySem.W.kitOne X.K t c = some b ∧ Q (.bl b) H) := by
  rintro pins s σ H xs us Q I r ⟨x, y, c, t, b, rfl, hc, ty, hk, q⟩
  obtain ⟨u, w', rfl, r1, r2⟩ := vals2 r
  cases clsV_rel hc r2
  exact isinst_ok I r1 ty hk fun tk => ⟨.bl b, H, I.tok tk, rfl, q⟩

/-! ### an exception that was caught: its class, its methods -/
/-- what of the text an own error class must have to be asked -/
structure ErrA (K : PySem.W.Frag) (C : Addr) : Prop where
  ga : PySem.W.findIn K (.ref C) "__getattribute__" = some (some (.builtin "BaseException.__getattribute__"))
  gt : PySem.W.findIn K (.ref C) "__getattr__" = some none
  cls : (PySem.W.clsIn K C).isSome = true
  ca : PySem.W.findIn K (.ref C) "__class__" = some (some (.builtin "object.__class__"))
  cg : PySem.W.specialIn K (.builtin "object.__class__") "__get__" = some (some (.builtin "getset_descriptor.__get__"))
  ct : PySem.W.takesIn K (.builtin "object.__class__") = some true
  ob : PySem.W.mroIn K C (.type "object") = some true
  be : PySem.W.mroIn K C (.type "BaseException") = some true
theorem excP.inst {a C : Addr} {h : Heap} (p : excP a (.ref C) h) : ∃ ox, PySem.W.InstAt h a ox C none := by
  obtain ⟨oe, vs, e, hc, hd, hf⟩ := p
  refine ⟨oe, e, hc, ?_, ?_⟩
  · unfold PySem.W.notCls
    rw [hf]
  · rw [hd]
    exact True.intro
theorem canon_bexc_ga : (Manifest.canonical "BaseException.__getattribute__" != "object.__getattribute__") = false := by decide +kernel
theorem method_exc {K : PySem.W.Frag} {prog : Program} {w : World} {A : Around} {E : Value → Shared → Prop} {s : Shared} {a C f : Addr} {m : Str} {pl : Sem Bool} {Q : Value × List Value → Shared → Prop} (X : K.In s.heap) (p : excP a (.ref C) s.heap) (c : ErrA K C)
    (hf : PySem.W.findIn K (.ref C) m = some (some (.ref f))) (ht : PySem.W.typeIn K (.ref f) = some (.type "function")) (h : Q (.ref f, [.ref a]) s) : wpAny (model prog w) A (getMethod (.ref a) m pl) Q E s := by
  obtain ⟨ox, I⟩ := p.inst
  have hcan := canon_bexc_ga
  unfold getMethod specialOf
  refine wpAny_bind (wpAny_bind (I.type.here ((PySem.W.looks_findIn X c.ga).here ?_)))
  dsimp only
  rw [hcan, if_neg (by decide)]
  refine wpAny_bind (wpAny_bind (I.type.here ((PySem.W.looks_findIn X c.gt).here ?_)))
  refine wpAny_bind (wpAny_bind (I.type.here ((PySem.W.looks_findIn X hf).here (wpAny_bind ((PySem.W.looks_typeIn X ht).here ?_)))))
  rw [if_neg (by decide +kernel)]
  refine wpAny_bind (wpAny_loadPart I.at_ ?_)
  have hd := I.dict
  cases e : ox.dict with
  | none => exact wpAny_bind (wpAny_rule (wpAny_pure h))
  | some dx =>
    rw [e] at hd
    exact hd.elim

section
variable {X : Cx} {CX : CXT} {k : Nat} {f C : Addr} {fd : FuncData} {ps : List Str} {sp : Sp} {dvs : List V} {ds : List Value} {E : XK} {m : Str} {pos apos : Pos} {o : Expr} {ta : TE}
/-- e.m() of a caught exception -/
def tMethE (C : Addr) (sp : Sp) (dvs : List V) (E : XK) (ta : TE) : TE := fun σ H Q => ta σ H fun x H1 => ∃ a, x = .ref a ∧ H1 a = some (excO a (.ref C)) ∧ sp (x :: dvs) H1 Q E
theorem pe_methE0 {pl : Sem Bool} (he : PE X o ta) (c : ErrA X.K C) (hf : PySem.W.findIn X.K (.ref C) m = some (some (.ref f))) (ht : PySem.W.isFn X.K (.ref f) = true) (hk : PySem.W.keepIn X.K (.ref f) = true) (F : FnOk X.prog X.w X.K X.mg X.base CX k f fd ps sp) (hr : Room k X.A) (hb : Binds X.K fd ps ds) (hd : Vals dvs ds)
    (hx : Passes CX X E)
    (hev : eval (.Call (.Attribute o m apos) [] [] pos) X.env = (do
      let ov ← eval o X.env
      standAt apos.atName
      let (f, first) ← holding [ov] (getMethod ov m pl)
      callWith pos f first (backTo pos (starEach [] X.env)) (backToKw pos (keywordEach [] X.env))) := by rfl) :
    PE X (.Call (.Attribute o m apos) [] [] pos) (tMethE C sp dvs E ta) := by
  intro pins s σ H Q I h
  refine PySem.W.methodCall_KW (pl := pl) (thn (he pins s σ H _ I h) fun u s1 ⟨x, H1, I1, rx, a, ex, ea, q⟩ => ?_) hev
  subst ex
  obtain rfl : u = Value.ref a := rx
  refine method_exc I1.kIn (I1.exc ea) c hf (beq_iff_eq.mp ht) ?_
  exact PySem.W.callWith_K0 (first := [.ref a]) I1.kIn hk (run_fn (us := [.ref a]) (vs := [.ref a]) F hr hb hd hx I1 (.cons rfl .nil) q)
end

theorem bga_kind : builtinKind "BaseException.__getattribute__" = some .slot := by decide +kernel
theorem bga_split : splitId "BaseException.__getattribute__" = some ("BaseException", "__getattribute__") := by decide +kernel
theorem bga_bind (self : Value) : bindSpecial (.builtin "BaseException.__getattribute__") self = pure (.builtin "BaseException.__getattribute__", [self]) := PySem.F.excAttr_ValueError.ga.bind self
section
variable {K : PySem.W.Frag} {prog : Program} {w : World} {A : Around} {E : Value → Shared → Prop} {hh : Heap} {g : Array GenState} {d : Drawn} {t : Nat} {os : OsState} {a C : Addr} {tk : Tok}
theorem exc_check {M : Model} {nameV : Value} {Q : Unit → Shared → Prop} (X : K.In hh) (p : excP a (.ref C) hh) (c : ErrA K C) (hq : Q () ⟨hh, g, d, t, os⟩) : wpAny M A (checkBuiltinCall "BaseException.__getattribute__" ⟨[.ref a, nameV], []⟩) Q E ⟨hh, g, d, t, os⟩ := by
  obtain ⟨ox, I⟩ := p.inst
  have L0 := I.type (M := M)
  have L4 : PySem.W.Looks M hh (isSubtype (.ref C) (.type "BaseException")) true := PySem.W.looks_mroIn X c.be
  have hk := bga_kind
  have hsplit := bga_split
  have ha := F.args_bexc_ga (.ref a) nameV
  simp only [checkBuiltinCall, hk, hsplit]
  refine wpAny_bind ?_
  unfold isInstance
  repeat (first | with_reducible refine PySem.W.Looks.at L0 ?_ | with_reducible refine PySem.W.Looks.at L4 ?_ | wp_step)
  exact hq
theorem exc_entry {Q : Fin → Shared → Prop} (X : K.In hh) (p : excP a (.ref C) hh) (c : ErrA K C) (hq : Q (.done (.ret (.ref C))) ⟨hh, g, d, t, os⟩) :
    wpAny (model prog w) A (Builtin.«object.__getattribute__» ⟨[.ref a, .str "__class__" tk], []⟩) Q E ⟨hh, g, d, t, os⟩ := by
  obtain ⟨ox, I⟩ := p.inst
  have hf : PySem.W.findObj K C none "__class__" = some (.bind (.builtin "getset_descriptor.__get__") (.builtin "object.__class__")) := by
    obtain ⟨cd, hc⟩ := Option.isSome_iff_exists.mp c.cls
    unfold PySem.W.findObj
    rw [hc, Option.bind_some, c.ca, Option.bind_some]
    simp [c.cg, c.ct]
  have L0 := I.type (M := model prog w)
  have L3 := PySem.W.looks_find (M := model prog w) X I hf
  repeat (first | with_reducible refine PySem.W.Looks.at L0 ?_ | with_reducible refine PySem.W.Looks.at L3 ?_ | wp_step)
  exact PySem.W.class_get X I c.ob (wpAny_pure hq)
theorem exc_call {R : Result → Shared → Prop} (X : K.In hh) (p : excP a (.ref C) hh) (c : ErrA K C) (hq : R (.ok (.ret (.ref C))) ⟨hh, g, d, t, os⟩) :
    codeAny (model prog w) A (.call (.builtin "BaseException.__getattribute__") ⟨[.ref a, .str "__class__" tk], []⟩) R ⟨hh, g, d, t, os⟩ :=
  codeAny_call_builtin PySem.F.excAttr_ValueError.ga.plain F.entry_bexc_ga (exc_check X p c (exc_entry X p c hq))
theorem exc_by {Q : Value → Shared → Prop} (X : K.In hh) (p : excP a (.ref C) hh) (c : ErrA K C) (hq : Q (.ref C) ⟨hh, g, d, t, os⟩) : wpAny (model prog w) A (getAttrBy (.ref a) (.str "__class__" tk) false) Q E ⟨hh, g, d, t, os⟩ := by
  obtain ⟨ox, I⟩ := p.inst
  have L0 := I.type (M := model prog w)
  have L1 := PySem.W.looks_findIn (M := model prog w) X c.ga
  have L2 := PySem.W.looks_findIn (M := model prog w) X c.gt
  have f3 := bga_bind (.ref a)
  have hx0 : (false && onTheHeap (Value.builtin "BaseException.__getattribute__")) = false := rfl
  have hx2 : (Value.builtin "BaseException.__getattribute__" == Value.builtin "object.__getattribute__") = false := by decide +kernel
  have hx1 : (onTheHeap (Value.ref C) && Value.builtin "BaseException.__getattribute__" == Value.builtin "object.__getattribute__") = false := by rw [hx2]; rfl
  repeat (any_goals (first | assumption | with_reducible refine PySem.W.Looks.at L0 ?_ | with_reducible refine PySem.W.Looks.at L1 ?_ | with_reducible refine PySem.W.Looks.at L2 ?_ | wp_step))
  refine exc_call X p c ?_
  repeat (any_goals (first | assumption | wp_step))
end
theorem exc_class {K : PySem.W.Frag} {prog : Program} {w : World} {A : Around} {E : Value → Shared → Prop} {s : Shared} {a C : Addr} {Q : Option Value → Shared → Prop} (X : K.In s.heap) (p : excP a (.ref C) s.heap) (c : ErrA K C)
    (h : Q (some (.ref C)) { s with toks := s.toks + 1 }) : wpAny (model prog w) A (getAttr? (.ref a) "__class__") Q E s := by
  obtain ⟨hh, g, d, t, os⟩ := s
  unfold getAttr? getAttrBy?
  repeat (any_goals (first | assumption | with_reducible apply exc_by X p c | wp_step))
theorem kitx_exc {K : PySem.W.Frag} {a C : Addr} (c : ErrA K C) : PySem.W.KitX K (.ref a) (.ref C) (excP a (.ref C)) where
  ty := fun _ _ _ p => let ⟨_, I⟩ := p.inst; I.type
  it := fun _ _ X _ => by
    have hcD := c.cls
    unfold PySem.W.clsIn at hcD
    split at hcD
    · rename_i c' d' cd' sl' ho
      intro A' Q' E' s' k q
      unfold isType loadHead
      exact wpAny_bind (wpAny_loadPart (k _ _ (X _ _ ho)) (wpAny_pure q))
    · cases hcD
  ne := fun h tp dd its n sl X htp => by
    have hcD := c.cls
    refine Bool.eq_false_iff.mpr fun q => ?_
    have e : C = tp := Value.ref.inj (beq_iff_eq.mp q)
    subst e
    unfold PySem.W.clsIn at hcD
    split at hcD
    · rename_i c' d' cd' sl' ho
      have z := (X _ _ ho).symm.trans htp
      cases z
    · cases hcD
  ca := fun X p k => exc_class X p c k
theorem call_isiE {X : Cx} : CallR X (.builtin "isinstance") (fun xs H Q => ∃ a C y c b, xs = [.ref a, y] ∧ clsV y = some c ∧ H a = some (excO a (.ref C)) ∧ ErrA X.K C ∧ PySem.W.kitOne X.K (.ref C) c = some b ∧ Q (.bl b) H) := by
  rintro pins s σ H xs us Q I r ⟨a, C, y, c, b, rfl, hc, ea, er, hk, q⟩
  obtain ⟨u, w', rfl, r1, r2⟩ := vals2 r
  cases clsV_rel hc r2
  cases (show u = Value.ref a from r1)
  exact PySem.W.kia_one (kitx_exc er) I.kIn (I.exc ea) hk (fun z => nomatch z) fun tk => ⟨.bl b, H, I.tok tk, rfl, q⟩

/-! ### f-strings whose words do not matter -/
section
variable {X : Cx} {es : List Expr} {n : Nat} {pos : Pos}
end
end L2
namespace L2
open PySem PySem.Spec PyProof.Rows XL

/-! ### a list comprehension: its block runs over cells of the def's own names -/
section
variable {prog : Program} {w : World} {A : Around} {R : Result → Shared → Prop} {s : Shared}
theorem compLoop_go {elt target iter : Expr} {ifs : List Expr} {scope : Scope} {pos : Pos} {it acc : Value} {env : Env} (I : Nat → Shared → Prop)
    (turn : ∀ n s, I n s → wpAny (model prog w) A (pyNext it) (fun r s₁ => match r with
      | none => R (.ok .next) s₁
      | some v => wpAny (model prog w) A (letOwnedTupleGo target it v) (fun _ s₁' => wpAny (model prog w) A (assign target env v) (fun _ s₂ =>
          wpAny (model prog w) A (forIn ifs true fun c r => if r = true then do let ok ← isTrue c env (eval c env); pure (ForInStep.yield ok) else pure (ForInStep.yield r)) (fun ok s₃ =>
            if ok = true then wpAny (model prog w) A (eval elt env) (fun x s₄ =>
              wpAny (model prog w) A (call (.builtin "list.append") [acc, x]) (fun _ s₅ => ∃ m, m < n ∧ I m s₅) (fun _ _ => False) s₄) (fun _ _ => False) s₃
            else ∃ m, m < n ∧ I m s₃) (fun _ _ => False) s₂) (fun _ _ => False) s₁') (fun _ _ => False) s₁) (fun _ _ => False) s)
    (n : Nat) (h : I n s) : codeAny (model prog w) A (.compLoop (.ListComp elt [⟨target, iter, ifs, 0⟩] scope pos) 0 it acc env) R s := by
  refine codeAny_loop rfl I (fun n s hI => ?_) n h
  show wpAny _ A ((compTurn (.ListComp elt [⟨target, iter, ifs, 0⟩] scope pos) 0 it acc env).onRaise (fun x => do noteFrame x env; theTreesLotGoes x)) _ _ s
  refine wpAny_noted ?_
  rw [compTurn_list]
  refine wpAny_bind (wpAny_standAt (wpAny_bind (wpAny_mono (turn n s hI) (fun r s₁ h₁ => ?_) fun _ _ h' => h'.elim)))
  cases r with
  | none => exact wpAny_pure h₁
  | some v =>
    refine wpAny_bind (wpAny_mono h₁ (fun _ s₁' h₁' => ?_) fun _ _ h' => h'.elim)
    refine wpAny_bind (wpAny_mono h₁' (fun _ s₂ h₂ => wpAny_bind (wpAny_mono h₂ (fun ok s₃ h₃ => ?_) fun _ _ h' => h'.elim)) fun _ _ h' => h'.elim)
    cases ok with
    | false => exact wpAny_pure ⟨rfl, h₃⟩
    | true =>
      exact wpAny_bind (wpAny_bind (wpAny_mono h₃ (fun x s₄ h₄ => wpAny_bind (wpAny_mono h₄ (fun _ s₅ h₅ => wpAny_pure (wpAny_pure ⟨rfl, h₅⟩)) fun _ _ h' => h'.elim)) fun _ _ h' => h'.elim))
end

theorem closure_ok {scope : Scope} {env : Env} (h : ∀ x, (x, NameKind.free) ∈ scope.names → ∃ c, env.cells.lookup x = some c) :
    ∃ cl, closureFor scope env = pure cl ∧ (∀ x c, cl.lookup x = some c → env.cells.lookup x = some c) ∧ ∀ x, (x, NameKind.free) ∈ scope.names → ∃ c, cl.lookup x = some c := by
  simp only [closureFor]
  suffices q : ∀ (names : List (Str × NameKind)) (cs : List (Str × Addr)), (∀ x c, cs.lookup x = some c → env.cells.lookup x = some c) → (∀ x, (x, NameKind.free) ∈ names → ∃ c, env.cells.lookup x = some c) →
      ∃ cl, (forIn names cs fun x r => if (x.2 == NameKind.free) = true then do let a ← cellOf env x.1; pure (ForInStep.yield ((x.1, a) :: r)) else pure (ForInStep.yield r)) = (pure cl : Sem (List (Str × Addr))) ∧
        (∀ x c, cl.lookup x = some c → env.cells.lookup x = some c) ∧ (∀ x, (x, NameKind.free) ∈ names → ∃ c, cl.lookup x = some c) ∧ ∀ x c, cs.lookup x = some c → ∃ c', cl.lookup x = some c' by
    obtain ⟨cl, e, a, b, _⟩ := q scope.names [] (fun x c z => by cases z) h
    refine ⟨cl, ?_, a, b⟩
    show (forIn scope.names [] _ >>= fun r => pure r) = _
    refine Eq.trans (congrArg (fun t => t >>= fun r => pure r) e) rfl
  intro names
  induction names with
  | nil => exact fun cs hcs _ => ⟨cs, rfl, hcs, fun x z => (nomatch z), fun x c z => ⟨c, z⟩⟩
  | cons y r ih =>
    intro cs hcs hr
    obtain ⟨n, k⟩ := y
    rw [List.forIn_cons]
    by_cases hk : (k == NameKind.free) = true
    · have hk' : k = .free := by simpa using hk
      subst hk'
      obtain ⟨c, hc⟩ := hr n List.mem_cons_self
      obtain ⟨cl, e, a, b, d⟩ := ih ((n, c) :: cs) (fun x c' z => by
        rw [List.lookup_cons] at z
        cases hx : x == n with
        | true => rw [hx] at z; cases z; have : x = n := by simpa using hx
                  rw [this]; exact hc
        | false => rw [hx] at z; exact hcs x c' z) fun x z => hr x (List.mem_cons_of_mem _ z)
      refine ⟨cl, ?_, a, fun x z => ?_, fun x c' z => ?_⟩
      · rw [← e]
        have : cellOf env n = pure c := by unfold cellOf; rw [hc]
        rw [if_pos hk, this]
        rfl
      · rcases List.mem_cons.mp z with z | z
        · cases z
          exact d n c (by simp)
        · exact b x z
      · cases hx : x == n with
        | true => exact d x c (by rw [List.lookup_cons, hx])
        | false => exact d x c' (by rw [List.lookup_cons, hx]; exact z)
    · obtain ⟨cl, e, a, b, d⟩ := ih cs hcs fun x z => hr x (List.mem_cons_of_mem _ z)
      refine ⟨cl, ?_, a, fun x z => ?_, d⟩
      · rw [← e, if_neg hk]
        rfl
      · rcases List.mem_cons.mp z with z | z
        · cases z
          exact absurd rfl hk
        · exact b x z

theorem lookup_relabel_free {env : Env} : ∀ {names : List (Str × NameKind)} {x : Str}, names.lookup x = some .free →
    (names.map fun (n, k) => if (k == NameKind.free && env.scope.kind == .function && env.kindOf n == some .cell) then (n, NameKind.cell) else (n, k)).lookup x = some .cell ∨
    (names.map fun (n, k) => if (k == NameKind.free && env.scope.kind == .function && env.kindOf n == some .cell) then (n, NameKind.cell) else (n, k)).lookup x = some .free
  | [], _, h => by simp at h
  | (n, k) :: r, x, h => by
    have ih := @lookup_relabel_free env r x
    rw [List.map_cons]
    dsimp only
    cases hx : x == n with
    | true =>
      simp only [List.lookup_cons, hx] at h
      cases h
      by_cases hc : (NameKind.free == NameKind.free && env.scope.kind == .function && env.kindOf n == some .cell) = true
      · rw [if_pos hc]; left; simp [List.lookup_cons, hx]
      · rw [if_neg hc]; right; simp [List.lookup_cons, hx]
    | false =>
      simp only [List.lookup_cons, hx] at h
      by_cases hc : (k == NameKind.free && env.scope.kind == .function && env.kindOf n == some .cell) = true
      · rw [if_pos hc]; simp only [List.lookup_cons, hx]; exact ih h
      · rw [if_neg hc]; simp only [List.lookup_cons, hx]; exact ih h
theorem relabel_was_free {env : Env} : ∀ {names : List (Str × NameKind)} {x : Str} {q : NameKind}, (∀ y ∈ names, y.2 ≠ .cell) → (q = .cell ∨ q = .free) →
    (names.map fun (n, k) => if (k == NameKind.free && env.scope.kind == .function && env.kindOf n == some .cell) then (n, NameKind.cell) else (n, k)).lookup x = some q → (x, NameKind.free) ∈ names
  | [], _, _, _, _, h => by simp at h
  | (n, k) :: r, x, q, hn, hq, h => by
    have ih := @relabel_was_free env r x q (fun y hy => hn y (List.mem_cons_of_mem _ hy)) hq
    rw [List.map_cons] at h
    dsimp only at h
    cases hx : x == n with
    | true =>
      have e : x = n := by simpa using hx
      subst e
      by_cases hc : (k == NameKind.free && env.scope.kind == .function && env.kindOf x == some .cell) = true
      · have : k = .free := by
          cases k <;> first | rfl | (exfalso; revert hc; simp; done)
        subst this
        exact List.mem_cons_self
      · rw [if_neg hc] at h
        simp only [List.lookup_cons, hx] at h
        cases h
        rcases hq with rfl | rfl
        · exact absurd rfl (hn _ List.mem_cons_self)
        · exact List.mem_cons_self
    | false =>
      by_cases hc : (k == NameKind.free && env.scope.kind == .function && env.kindOf n == some .cell) = true
      · rw [if_pos hc] at h; simp only [List.lookup_cons, hx] at h; exact List.mem_cons_of_mem _ (ih h)
      · rw [if_neg hc] at h; simp only [List.lookup_cons, hx] at h; exact List.mem_cons_of_mem _ (ih h)

/-- the block's context: its own names, then those of the def's that it reads (in cells) -/
def compCx (X : Cx) (own caps : List Str) (scope : Scope) (cl : List (Str × Addr)) (C : Addr) (fp : List Addr) (s₃ : Shared) (H₃ : Hp) : Cx where
  prog := X.prog
  w := X.w
  K := X.K
  mg := X.mg
  base := X.base
  A := X.A
  N := own ++ caps
  s₀ := s₃
  H₀ := H₃
  env := compEnvC scope cl C X.env
  outer := X.stack
  stack := X.stack
  ex := fp
  fn := fun _ => false
  calm := X.calm
  pn := []
  xe := fun _ _ => False
/-- the block's names at a turn's begin: the own ones are not known -/
def capv (n : Nat) (cs : List Nat) (σ : St) : St := List.replicate n none ++ cs.map fun i => σ.getD i none
/-- the tests -/
def PF (X : Cx) (ifs : List Expr) (t : TT) : Prop :=
  ∀ (pins : List (Addr × Obj)) (s : Shared) (σ : St) (H : Hp) (Q : Bool → Hp → Prop), Inv X pins σ H s → t σ H Q →
    wpAny (model X.prog X.w) X.A (forIn ifs true fun c r => if r = true then do let ok ← isTrue c X.env (eval c X.env); pure (ForInStep.yield ok) else pure (ForInStep.yield r)) (TP X pins σ Q) X.xe s
def tNoIf : TT := fun _ H Q => Q true H
theorem noIf {σ : St} {H : Hp} {A B : Bool → Hp → Prop} (h : A true H) : tNoIf σ H (fun b H3 => if b = true then A b H3 else B b H3) := by
  show if true = true then A true H else B true H
  rw [if_pos rfl]
  exact h
theorem pf_nil {X : Cx} : PF X [] tNoIf := fun pins s σ H Q I h => wpAny_tests_nil ⟨H, I, h⟩
theorem pf_one {X : Cx} {c : Expr} {t : TT} (h : PT X c t) : PF X [c] t := fun pins s σ H Q I q => wpAny_tests_one (h pins s σ H Q I q)

/-- n: how many own names; cs: the slots that are read. W: the word by the turn, a measure and what is laid so far -/
def CompW (J : It) (n : Nat) (cs : List Nat) (σ : St) (g : TG) (tc : TT) (te : TE) (Q : VK) (H1 : Hp) (D : Addr) : Prop := ∃ W : Nat → Nat → List V → Hp → Prop, (∃ m, W 0 m [] (upd H1 D (.lst []))) ∧
  ∀ i m ys H, W i m ys H → (J.stop i H ∧ Q (.ref D) H) ∨ (J.go i H ∧ ∀ x H', J.yld i H x H' → g x (capv n cs σ) H' fun σ2 H2 => σ2.drop n = cs.map (fun i => σ.getD i none) ∧
    tc σ2 H2 fun b H3 => if b = true then te σ2 H3 fun y H4 => H4 D = some (.lst ys) ∧ ys.length < sizeLine ∧ ∃ m', m' < m ∧ W (i + 1) m' (ys ++ [y]) (upd H4 D (.lst (ys ++ [y]))) else ∃ m', m' < m ∧ W (i + 1) m' ys H3)
def tComp (n : Nat) (cs : List Nat) (wi : TI) (g : TG) (tc : TT) (te : TE) : TE := fun σ H Q => wi σ H fun J H1 => ∀ D, H1 D = none → CompW J n cs σ g tc te Q H1 D

structure CompSc (X : Cx) (sc : Scope) (own caps : List Str) (cs : List Nat) (scope : Scope) : Prop where
  scp : X.env.scope = sc
  kind : scope.kind = .function
  nocell : ∀ y ∈ scope.names, y.2 ≠ .cell
  names : ∀ y ∈ scope.names, y.2 = .local → scope.names.lookup y.1 = some .local
  free : ∀ y ∈ scope.names, y.2 = .free → sc.names.lookup y.1 = some .cell
  capf : ∀ x ∈ caps, scope.names.lookup x = some .free
  slots : cs.map (fun i => X.N[i]?) = caps.map some

section
variable {X : Cx} {sc scope : Scope} {own caps : List Str} {cs : List Nat} {tg elt iter : Expr} {ifs : List Expr} {wi : TI} {g : TG} {tc : TT} {te : TE} {pos : Pos} {E : Value → Shared → Prop}

theorem comp_core {pins : List (Addr × Obj)} {σ : St} {H : Hp} {s : Shared} {it : Addr} {fp : List Addr} {tn : Nat → Heap → Prop} {J : It} {cl : List (Str × Addr)} {RR : Value → Addr → Result → Shared → Prop} {Q : VK}
    (S : CompSc X sc own caps cs scope) (hc : X.calm = true) (hg : ∀ C fp s₃ H₃, PG (compCx X own caps scope cl C fp s₃ H₃) tg g) (ht : ∀ C fp s₃ H₃, PF (compCx X own caps scope cl C fp s₃ H₃) ifs tc)
    (he : ∀ C fp s₃ H₃, PE (compCx X own caps scope cl C fp s₃ H₃) elt te)
    (cl1 : ∀ x c, cl.lookup x = some c → X.env.cells.lookup x = some c) (cl2 : ∀ x, (x, NameKind.free) ∈ scope.names → ∃ c, cl.lookup x = some c)
    (I : Inv X pins σ H s) (T : Turn X.prog X.w X.K tg J fp it tn) (st : tn 0 s.heap) (f : ∀ b ∈ fp, FpOk X pins H b)
    (h : ∀ D, H D = none → CompW J own.length cs σ g tc te Q H D)
    (hRR : ∀ D C s' H', Inv X pins σ H' s' → (∃ m, s'.heap.Ns C m) → FpOk X pins H' C → Q (.ref D) H' → RR (.ref D) C (.ok .next) s') :
    wpAny (model X.prog X.w) X.A (newList []) (fun acc s₃ => wpAny (model X.prog X.w) X.A (newFunctionEnv scope X.env.globals cl [] X.env.qual none .none (some X.env)) (fun cenv s₄ =>
      codeAny (model X.prog X.w) X.A (.compStart (.ListComp elt [⟨tg, iter, ifs, 0⟩] scope pos) 0 (.ref it) acc { cenv with scope := relabel scope X.env }) (RR acc cenv.locals) s₄) E s₃) E s := by
  refine wpAny_newObj_type (wpAny_newFunctionEnv S.nocell (by intro y hy; simp at hy) (fun h₁ hns₁ hsb₁ => ?_) S.kind)
  dsimp only at hns₁ hsb₁ ⊢
  obtain ⟨W, ⟨m0, w0⟩, turn⟩ := h s.heap.objs.size I.fresh
  have I3 : Inv X pins σ (upd H s.heap.objs.size (.lst [])) { s with heap := s.heap.push { cls := .type "list", dict := none, data := .seq ([] : List Value).toArray } } :=
    I.lnew (its := []) (t' := s.toks) .nil (Nat.zero_le _)
  generalize hD : s.heap.objs.size = D at *
  generalize hH2 : s.heap.push { cls := .type "list", dict := none, data := .seq ([] : List Value).toArray } = h2 at hns₁ hsb₁ I3 ⊢
  generalize hH3 : upd H D (.lst []) = H3 at I3 w0
  have h3n : ∀ b, b ≠ D → H3 b = H b := fun b hb => by rw [← hH3, upd_ne hb]
  have kept : ∀ b o, h2.get? b = some o → h₁.get? b = some o := fun b o e => hsb₁.extBut b o (Nat.ne_of_lt (Heap.lt_size e)) (Heap.get?_push_of_some _ e)
  have k0 : ∀ b o, s.heap.get? b = some o → h2.get? b = some o := fun b o e => by rw [← hH2]; exact Heap.get?_push_of_some _ e
  have fpl : ∀ b ∈ fp, b < s.heap.objs.size := fun b hb => by
    obtain ⟨o, e, _⟩ := T.obj 0 _ st b hb
    exact Heap.lt_size e
  have hszC : h2.objs.size = D + 1 := by rw [← hH2, Heap.size_push, hD]
  generalize hCC : h2.objs.size = C at *
  have fpC : ∀ b ∈ fp, b ≠ C ∧ b ≠ D := fun b hb => by
    have := fpl b hb
    rw [hD] at this
    exact ⟨Nat.ne_of_lt (Nat.lt_of_lt_of_le this (by rw [hszC]; exact Nat.le_succ _)), Nat.ne_of_lt this⟩
  -- the block's context is one
  have okY : (compCx X own caps scope cl C fp { s with heap := h2 } H3).Ok := by
    have J3 := I3.ok
    refine ⟨J3.mod, S.kind, J3.glob, J3.blt, (Nat.le_of_eq hCC), fun x y c a b => J3.inj x y c (cl1 x c a) (cl1 y c b), fun x hx => ?_, fun x c z => (by cases z), J3.hd, J3.frames, .inl rfl, fun b hb => ⟨(fpC b hb).1, fun x c e => (f b hb).2.2.2.2.1 x c (cl1 x c e)⟩,
      fun b o e => I3.bs b o e, (Nat.le_trans J3.bsz I3.sz), fun b o e hb => ?_, fun b hb z => ?_, I3.stack, I3.stkFree⟩
    · refine cl2 x ?_
      rcases hx with hx | hx
      · exact relabel_was_free S.nocell (.inl rfl) hx
      · exact relabel_was_free S.nocell (.inr rfl) hx
    · rcases (f b hb).2.2.2.1 with z | z
      · exact J3.noex b o e z
      · exact absurd (Nat.lt_of_lt_of_le (Heap.lt_size e) (Nat.le_trans J3.bsz z)) (Nat.lt_irrefl _)
    · rcases List.mem_cons.mp (I3.stkSub b z) with z | z
      · exact (f b hb).2.1 z
      · exact (f b hb).2.2.1 z
  have slotN : ∀ (i : Nat) (x : Str), (own ++ caps)[i]? = some x → own.length ≤ i → ∃ j, cs[i - own.length]? = some j ∧ X.N[j]? = some x := fun i x e hi => by
    rw [List.getElem?_append_right hi] at e
    have z := congrArg (fun l => l[i - own.length]?) S.slots
    simp only [List.getElem?_map, e, Option.map_some] at z
    cases q : cs[i - own.length]? with
    | none => rw [q] at z; cases z
    | some j => rw [q] at z; exact ⟨j, rfl, Option.some.inj z⟩
  have csl : cs.length = caps.length := by simpa using congrArg List.length S.slots
  have IY : Inv (compCx X own caps scope cl C fp { s with heap := h2 } H3) [] (capv own.length cs σ) H3 { s with heap := h₁, toks := s.toks + ([] : List (Str × Value)).length } := by
    refine ⟨okY, rfl, I3.bare, Un.kept kept, ⟨_, hns₁, fun i x v e1 e2 e3 => ?_⟩, fun x c e => ?_, I3.hok.fresh (Nat.le_of_eq hCC), fun x c e => I3.freeC x c (cl1 x c e), fun p hp => absurd (show p ∈ ([] : List (Addr × Obj)) from hp) (by simp), I3.hok.kept kept, ?_⟩
    · have hi : own.length ≤ i := by
        refine Nat.le_of_not_lt fun z => ?_
        unfold capv at e2
        rw [List.getElem?_append_left (by simpa using z), List.getElem?_replicate, if_pos z] at e2
        cases e2
      obtain ⟨j, ej, en⟩ := slotN i x e1 hi
      unfold capv at e2
      rw [List.getElem?_append_right (by simpa using hi), List.length_replicate, List.getElem?_map, ej] at e2
      have e2' : σ.getD j none = some v := by simpa using e2
      have e2'' : σ[j]? = some (some v) := by
        rw [List.getD_eq_getElem?_getD] at e2'
        cases q : σ[j]? with
        | none => rw [q] at e2'; cases e2'
        | some z => rw [q] at e2'; exact congrArg some e2'
      have hx : x ∈ caps := by
        have e1' : (own ++ caps)[i]? = some x := e1
        rw [List.getElem?_append_right hi] at e1'
        exact List.mem_of_getElem? e1'
      have hf := S.capf x hx
      have hcell : X.env.scope.names.lookup x = some .cell := by
        rw [S.scp]
        exact S.free (x, .free) (PySem.mem_of_lookup hf) rfl
      obtain ⟨m, hn, hl⟩ := I3.loc
      obtain ⟨u, ru, lk⟩ := hl j x v en e2'' (.inr (.inl hcell))
      refine ⟨u, ru, .inr ⟨lookup_relabel_free hf, ?_⟩⟩
      obtain ⟨c, hc'⟩ := cl2 x (PySem.mem_of_lookup hf)
      refine ⟨c, hc', ?_⟩
      rcases lk with ⟨k, _⟩ | ⟨_, c', e', z⟩
      · rw [show X.env.kindOf x = X.env.scope.names.lookup x from rfl, hcell] at k
        cases k
      · rw [cl1 x c hc'] at e'
        cases e'
        obtain ⟨o, ho, hd⟩ := z
        exact ⟨o, kept _ _ ho, hd⟩
    · obtain ⟨v, o, ho, hd⟩ := I3.cell x c (cl1 x c e)
      exact ⟨v, o, kept _ _ ho, hd⟩
    · show (capv own.length cs σ).length = (own ++ caps).length
      unfold capv
      simp [csl]
  -- the iterator's objects, through the block
  have stat : ∀ {H' : Hp}, (∀ b ∈ fp, H' b = none) → ∀ b ∈ fp, FpOk (compCx X own caps scope cl C fp { s with heap := h2 } H3) [] H' b := fun hn b hb =>
    ⟨hn b hb, (fpC b hb).1, okY.exfs b hb, .inl hb, fun x c e => (f b hb).2.2.2.2.1 x c (cl1 x c e), fun p hp => absurd (show p ∈ ([] : List (Addr × Obj)) from hp) (by simp)⟩
  have hst₁ : tn 0 h₁ := T.keep _ _ _ st fun b _ o e => kept b o (k0 b o e)
  have loop : ∀ s₃ : Shared, s₃ = { s with heap := h₁, toks := s.toks + ([] : List (Str × Value)).length } →
      codeAny (model X.prog X.w) X.A (.compLoop (.ListComp elt [⟨tg, iter, ifs, 0⟩] scope pos) 0 (.ref it) (.ref D) (compEnvC scope cl C X.env)) (RR (.ref D) C) s₃ := by
    rintro s₃ rfl
    refine compLoop_go (fun n s' => ∃ i ys H', Inv (compCx X own caps scope cl C fp { s with heap := h2 } H3) [] (capv own.length cs σ) H' s' ∧ tn i s'.heap ∧ (∀ b ∈ fp, H' b = none) ∧ W i n ys H') ?_ m0
      ⟨0, [], H3, IY, hst₁, fun b hb => by rw [h3n b (fpC b hb).2]; exact (f b hb).1, w0⟩
    rintro n s5 ⟨i, ys, H5, I5, st5, fr5, w5⟩
    rcases turn i n ys H5 w5 with ⟨stop, q⟩ | ⟨go, step⟩
    · refine thn (T.done (compCx X own caps scope cl C fp { s with heap := h2 } H3) rfl rfl rfl hc i [] s5 _ H5 _ I5 (stat fr5) st5 stop) fun r s6 ⟨hr, I6⟩ => ?_
      subst hr
      have IX : Inv X pins σ H5 s6 := I3.call' (ch := fp) I6.os I6.base I6.hok I6.bare fun b hb => ⟨(f b hb).2.2.2.1, (f b hb).2.1, (f b hb).2.2.2.2.1, (f b hb).2.2.2.2.2⟩
      obtain ⟨m6, hn6, _⟩ := I6.loc
      exact hRR D C s6 H5 IX ⟨m6, hn6⟩ (I3.fpOk (b := C) (Nat.le_of_eq hCC) I6.free) q
    · refine thn (T.item (compCx X own caps scope cl C fp { s with heap := h2 } H3) rfl rfl rfl hc i [] s5 _ H5 _ I5 (stat fr5) st5 go) fun r s6 ⟨u, hr, h6⟩ => ?_
      subst hr
      refine thn h6 fun _ s7 ⟨x, H7, I7, r7, y7, st7, fr7⟩ => ?_
      have I7' := I7.pinned (stat fr7) (T.obj _ _ st7)
      refine thn (hg C fp _ _ _ s7 _ H7 x u _ I7' r7 (step x H7 y7)) fun _ s8 ⟨σ8, H8, I8, dr8, q8⟩ => ?_
      have again : ∀ {s' : Shared} {H' : Hp} {ys' : List V}, Inv (compCx X own caps scope cl C fp { s with heap := h2 } H3) ([] ++ pinsAt fp s7.heap) σ8 H' s' → (∃ m', m' < n ∧ W (i + 1) m' ys' H') →
          ∃ m, m < n ∧ ∃ i ys H', Inv (compCx X own caps scope cl C fp { s with heap := h2 } H3) [] (capv own.length cs σ) H' s' ∧ tn i s'.heap ∧ (∀ b ∈ fp, H' b = none) ∧ W i m ys H' := fun {s' H' ys'} I9 ⟨m', hm, w9⟩ => by
        have l8 : σ8.length = own.length + cs.length := by have := I9.len; rw [this]; show (own ++ caps).length = _; simp [csl]
        refine ⟨m', hm, i + 1, ys', H', (I9.unpinned).weak (by unfold capv; simp [l8]) (fun j v ej => ?_), T.keep _ _ _ st7 fun b hb o e => (I9.pin (b, o) (List.mem_append_right _ (List.mem_append_right _ (mem_pinsAt hb e)))).1, fun b hb => ?_, w9⟩
        · have hj : own.length ≤ j := by
            refine Nat.le_of_not_lt fun z => ?_
            unfold capv at ej
            rw [List.getElem?_append_left (by simpa using z), List.getElem?_replicate, if_pos z] at ej
            cases ej
          unfold capv at ej
          rw [List.getElem?_append_right (by simpa using hj), List.length_replicate, ← dr8, List.getElem?_drop] at ej
          rw [show own.length + (j - own.length) = j by omega] at ej
          exact ej
        · obtain ⟨o, e, d⟩ := T.obj _ _ st7 b hb
          exact (I9.pin (b, o) (List.mem_append_right _ (List.mem_append_right _ (mem_pinsAt hb e)))).2.1
      refine thn (ht C fp _ _ _ s8 σ8 H8 _ I8 q8) fun b s9 ⟨H9, I9, q9⟩ => ?_
      cases b with
      | false =>
        rw [if_neg Bool.false_ne_true] at q9 ⊢
        exact again I9 q9
      | true =>
        rw [if_pos rfl] at q9 ⊢
        refine thn (he C fp _ _ _ s9 σ8 H9 _ I9 q9) fun xv s10 ⟨y, H10, I10, r10, hD10, hlen, q10⟩ => ?_
        refine thn (mt_append (X := compCx X own caps scope cl C fp { s with heap := h2 } H3) _ s10 σ8 H10 (.ref D) [y] (.ref D) [xv] (fun _ H' => H' = upd H10 D (.lst (ys ++ [y]))) I10 rfl (.cons r10 .nil) ⟨D, ys, y, rfl, rfl, hD10, hlen, rfl⟩) fun _ s11 ⟨_, H11, I11, _, e11⟩ => ?_
        subst e11
        exact again I11 q10
  exact codeAny_compStart_list (loop _ rfl) (T.self _ 0 _ _ _ hst₁ (loop _ rfl))

theorem hClos (S : CompSc X sc own caps cs scope) (ok : X.Ok) : ∀ x, (x, NameKind.free) ∈ scope.names → ∃ c, X.env.cells.lookup x = some c := fun x hx => ok.has x (.inl (by
  show X.env.scope.names.lookup x = some .cell
  rw [S.scp]
  exact S.free (x, .free) hx rfl))
/-- [elt for tg in iter if c] -/
theorem pe_comp {g : List (Str × Addr) → Addr → List Addr → Shared → Hp → TG} {tc : List (Str × Addr) → Addr → List Addr → Shared → Hp → TT} {te : List (Str × Addr) → Addr → List Addr → Shared → Hp → TE} (S : CompSc X sc own caps cs scope) (hc : X.calm = true) (hi : PI X tg iter wi) (hg : ∀ cl C fp s₃ H₃, PG (compCx X own caps scope cl C fp s₃ H₃) tg (g cl C fp s₃ H₃)) (ht : ∀ cl C fp s₃ H₃, PF (compCx X own caps scope cl C fp s₃ H₃) ifs (tc cl C fp s₃ H₃))
    (he : ∀ cl C fp s₃ H₃, PE (compCx X own caps scope cl C fp s₃ H₃) elt (te cl C fp s₃ H₃)) (hge : ∀ cl C fp s₃ H₃, g cl C fp s₃ H₃ = g [] 0 [] X.s₀ X.H₀ := by intros; rfl) (hte : ∀ cl C fp s₃ H₃, tc cl C fp s₃ H₃ = tc [] 0 [] X.s₀ X.H₀ := by intros; rfl)
    (hee : ∀ cl C fp s₃ H₃, te cl C fp s₃ H₃ = te [] 0 [] X.s₀ X.H₀ := by intros; rfl) (hs : ∀ x, foldedSetIterable iter X.env x = pure x := by intro _; rfl) :
    PE X (.ListComp elt [⟨tg, iter, ifs, 0⟩] scope pos) (tComp own.length cs wi (g [] 0 [] X.s₀ X.H₀) (tc [] 0 [] X.s₀ X.H₀) (te [] 0 [] X.s₀ X.H₀)) := by
  intro pins s σ H Q I h
  obtain ⟨cl, hcl, cl1, cl2⟩ := closure_ok (hClos S I.ok)
  rw [eval_ListComp]
  refine wpAny_comprehension_free (use := none) rfl hs hcl S.kind S.names (thn (hi pins s σ H _ I h) fun v s1 h1 => thn h1 fun itv s2 h2 => ?_)
  obtain ⟨it, fp, tn, J, H2, rfl, I2, T, st2, f2, h2⟩ := h2
  refine comp_core (RR := fun acc C => compPost (model X.prog X.w) X.A X.xe none (EP X pins σ Q) acc C) S hc (fun C fp s₃ H₃ => hge cl C fp s₃ H₃ ▸ hg cl C fp s₃ H₃) (fun C fp s₃ H₃ => hte cl C fp s₃ H₃ ▸ ht cl C fp s₃ H₃) (fun C fp s₃ H₃ => hee cl C fp s₃ H₃ ▸ he cl C fp s₃ H₃) cl1 cl2 I2 T st2 f2 h2 ?_
  intro D C s' H' I' hm hf q
  obtain ⟨m, hn⟩ := hm
  obtain ⟨f0, f1, f2, f3, f4, f5⟩ := hf
  exact ⟨m, hn, fun h' hs' => ⟨.ref D, H', I'.turned (t' := s'.toks) (it := C) (fun b o hb e => (hs'.2 b hb).trans e) f0 f1 f3 f4 f5, rfl, q⟩⟩
/-- y = [elt for tg in iter if c], all in a row -/
theorem ps_comp {g : List (Str × Addr) → Addr → List Addr → Shared → Hp → TG} {tc : List (Str × Addr) → Addr → List Addr → Shared → Hp → TT} {te : List (Str × Addr) → Addr → List Addr → Shared → Hp → TE} {i : Nat} {y : Str} {py spos : Pos} (S : CompSc X sc own caps cs scope) (hc : X.calm = true) (hN : X.N.Nodup) (hyi : X.N[i]? = some y) (hy : X.env.scope.names.lookup y = some .local)
    (hsw : swapsWith (.ListComp elt [⟨tg, iter, ifs, 0⟩] scope pos) (some (.Name y py)) spos.line X.env = pure true)
    (hi : PI X tg iter wi) (hg : ∀ cl C fp s₃ H₃, PG (compCx X own caps scope cl C fp s₃ H₃) tg (g cl C fp s₃ H₃)) (ht : ∀ cl C fp s₃ H₃, PF (compCx X own caps scope cl C fp s₃ H₃) ifs (tc cl C fp s₃ H₃))
    (he : ∀ cl C fp s₃ H₃, PE (compCx X own caps scope cl C fp s₃ H₃) elt (te cl C fp s₃ H₃)) (hge : ∀ cl C fp s₃ H₃, g cl C fp s₃ H₃ = g [] 0 [] X.s₀ X.H₀ := by intros; rfl) (hte : ∀ cl C fp s₃ H₃, tc cl C fp s₃ H₃ = tc [] 0 [] X.s₀ X.H₀ := by intros; rfl)
    (hee : ∀ cl C fp s₃ H₃, te cl C fp s₃ H₃ = te [] 0 [] X.s₀ X.H₀ := by intros; rfl) (hs : ∀ x, foldedSetIterable iter X.env x = pure x := by intro _; rfl) :
    PS X (.Assign [.Name y py] (.ListComp elt [⟨tg, iter, ifs, 0⟩] scope pos) spos) (tAsg (tComp own.length cs wi (g [] 0 [] X.s₀ X.H₀) (tc [] 0 [] X.s₀ X.H₀) (te [] 0 [] X.s₀ X.H₀)) (gName i)) := by
  intro pins s σ H D I h
  obtain ⟨cl, hcl, cl1, cl2⟩ := closure_ok (hClos S I.ok)
  rw [exec_Assign_Name_used _ _ _ _ hsw]
  refine wpAny_bind (wpAny_standAt (wpAny_bind ?_))
  show wpAny _ X.A (do let _ ← comprehension (.ListComp elt [⟨tg, iter, ifs, 0⟩] scope pos) scope X.env _ (newList []) false (eval iter X.env) (some (assign (.Name y py) X.env))) _ _ s
  refine wpAny_bind (wpAny_mono (wpAny_comprehension_free (use := some (assign (.Name y py) X.env)) (Q := fun _ s' => SP X pins D .next s') rfl hs hcl S.kind S.names
    (thn (hi pins s σ H _ I h) fun v s1 h1 => thn h1 fun itv s2 h2 => ?_)) (fun _ s' hq => wpAny_pure (wpAny_pure hq)) fun _ _ e => e)
  obtain ⟨it, fp, tn, J, H2, rfl, I2, T, st2, f2, h2⟩ := h2
  refine comp_core (Q := fun x H1 => gName i x σ H1 D.nx) (RR := fun acc C => compPost (model X.prog X.w) X.A X.xe (some (assign (.Name y py) X.env)) (fun _ s' => SP X pins D .next s') acc C) S hc (fun C fp s₃ H₃ => hge cl C fp s₃ H₃ ▸ hg cl C fp s₃ H₃) (fun C fp s₃ H₃ => hte cl C fp s₃ H₃ ▸ ht cl C fp s₃ H₃) (fun C fp s₃ H₃ => hee cl C fp s₃ H₃ ▸ he cl C fp s₃ H₃) cl1 cl2 I2 T st2 f2 h2 ?_
  intro Dl C s' H' I' hm hf q
  obtain ⟨m, hn⟩ := hm
  obtain ⟨f0, f1, f2, f3, f4, f5⟩ := hf
  show wpAny _ X.A (assign (.Name y py) X.env (.ref Dl)) _ _ _
  refine wpAny_assign_Name (store_ok2 I' hN hyi (.inl hy) (v := .ref Dl) rfl (fun s3 I3 ⟨a, sb, ha⟩ => ?_) (.inr hy))
  have hCa : C ≠ a := by
    rcases ha with rfl | ha
    · exact f1
    · exact Ne.symm (f4 _ _ ha)
  refine ⟨m, hn.sameBut sb hCa, fun h' hs' => ⟨_, H', I3.turned (t' := s3.toks) (it := C) (fun b o hb e => (hs'.2 b hb).trans e) f0 f1 f3 f4 f5, q⟩⟩
end
end L2
namespace L2
open PySem PySem.Spec PyProof.Rows XL

section
variable {X : Cx} {pins : List (Addr × Obj)} {σ : St} {H H' : Hp} {s : Shared} {h' : Heap}
/-- several untracked records of ours have turned -/
theorem Inv.turnedN {t' : Nat} {ch : List Addr} (I : Inv X pins σ H s) (k : ∀ b o, b ∉ ch → s.heap.get? b = some o → h'.get? b = some o) (f : ∀ b ∈ ch, FpOk X pins H b) : Inv X pins σ H { s with heap := h', toks := t' } := by
  have nit : ∀ b u, H b = some u → b ∉ ch := fun b u e z => by rw [(f b z).1] at e; cases e
  refine I.step (g' := s.gens) (d' := s.drawn) (ch := ch) (fun b hb => ?_) (fun b o _ _ hc e _ => k b o hc e) (fun b o _ _ hc e _ => ⟨o.slots, k b o hc e⟩) (fun _ _ _ _ n => n)
    (fun b o hc e => ⟨o, k b o hc e⟩) (fun _ _ e => e) (fun _ _ _ e => e) (fun b ps e => ⟨#[], by rw [e]; simp⟩) (fun m hm => ?_) (fun b u e => ?_) I.bare
  · obtain ⟨f0, f1, f2, f3, f4, f5⟩ := f b hb
    exact ⟨f3, f1, f4, f5⟩
  · obtain ⟨o, es, ep, ho, r⟩ := hm
    exact ⟨o, es, ep, k _ o (fun z => (f _ z).2.1 rfl) ho, r⟩
  · refine (I.hok b u e).stay (fun c v hc q => k c v ?_ q) (fun _ q => q) fun _ _ q => q
    rcases hc with z | z
    · rw [z]; exact nit b u e
    · exact nit c _ z
/-- a tuple that was laid there is tracked -/
theorem Inv.trackTup {T : Addr} {xs : List V} {its : List Value} (I : Inv X pins σ H s) (f : FpOk X pins H T) (h0 : X.s₀.heap.get? T = none) (hz : xs.length ≤ sizeLine) (r : Vals xs its) (e : IsTup s.heap T its.toArray) : Inv X pins σ (upd H T (.tup xs)) s := by
  obtain ⟨f0, f1, f2, f3, f4, f5⟩ := f
  exact I.track f0 h0 f1 f4 f5 ⟨hz, its, r, e⟩
end

/-- zip of two lists, as they stand at each turn: a new pair -/
def Itz (K : PySem.W.Frag) (l1 l2 : Addr) : It :=
  ⟨fun i H => ∃ xs ys x y, SqL K H l1 xs ∧ SqL K H l2 ys ∧ xs[i]? = some x ∧ ys[i]? = some y,
   fun i H v H' => ∃ T, v = .ref T ∧ H T = none ∧ ∀ xs ys x y, SqL K H l1 xs → SqL K H l2 ys → xs[i]? = some x → ys[i]? = some y → H' = upd H T (.tup [x, y]),
   fun i H => ∃ xs ys, SqL K H l1 xs ∧ SqL K H l2 ys ∧ (xs.length ≤ i ∨ ys.length ≤ i)⟩
/-- enumerate of a list -/
def Ite (K : PySem.W.Frag) (l : Addr) : It :=
  ⟨fun i H => ∃ xs x, SqL K H l xs ∧ xs[i]? = some x,
   fun i H v H' => ∃ T, v = .ref T ∧ H T = none ∧ ∀ xs x, SqL K H l xs → xs[i]? = some x → H' = upd H T (.tup [.int i, x]),
   fun i H => ∃ xs, SqL K H l xs ∧ xs.length ≤ i⟩

theorem zip_apart {h : Heap} {z TI TO i1 i2 l1 l2 : Addr} {f0 a b : Value} {k1 k2 : Nat} {xs ys : Array Value} (hz : IsZip h z TI TO f0) (hTI : IsPair h TI (.ref i1) (.ref i2)) (hTO : IsPair h TO a b) (h1 : h.IsListIter i1 l1 k1) (h2 : h.IsListIter i2 l2 k2)
    (n12 : i1 ≠ i2) (nT : TI ≠ TO) (q1 : h.IsList l1 xs) (q2 : h.IsList l2 ys) : ZipApart z TI TO i1 i2 l1 l2 := by
  obtain ⟨o1, e1, c1, d1⟩ := h1
  obtain ⟨o2, e2, c2, d2⟩ := h2
  obtain ⟨p1, g1, cc1, n1, dd1⟩ := q1
  obtain ⟨p2, g2, cc2, n2, dd2⟩ := q2
  have ne : ∀ {a b : Addr} {o p : Obj} {n m : String}, h.get? a = some o → h.get? b = some p → o.cls = .type n → p.cls = .type m → n ≠ m → a ≠ b := fun {a b o p n m} ea eb ca cb nm q => by
    subst q
    rw [ea] at eb
    cases eb
    rw [ca] at cb
    cases cb
    exact nm rfl
  exact ⟨ne hTI hz rfl rfl (by decide), ne hTO hz rfl rfl (by decide), ne e1 hz c1 rfl (by decide), ne e2 hz c2 rfl (by decide), nT, ne hTI e1 rfl c1 (by decide), ne hTI e2 rfl c2 (by decide), ne hTO e1 rfl c1 (by decide), ne hTO e2 rfl c2 (by decide), n12,
    ne g1 hz cc1 rfl (by decide), ne g1 hTO cc1 rfl (by decide), ne g1 e1 cc1 c1 (by decide), ne g1 e2 cc1 c2 (by decide), ne g2 hz cc2 rfl (by decide), ne g2 hTO cc2 rfl (by decide), ne g2 e1 cc2 c1 (by decide), ne g2 e2 cc2 c2 (by decide)⟩

theorem turn_zip {P : Program} {w : World} {K : PySem.W.Frag} {es : List Expr} {x1} {tp : Pos} (l1 l2 z TI TO i1 i2 : Addr) (n12 : i1 ≠ i2) (nT : TI ≠ TO) : Turn P w K (.Tuple es x1 tp) (Itz K l1 l2) [z, TI, TO, i1, i2] z
    (fun i h => IsZip h z TI TO .none ∧ IsPair h TI (.ref i1) (.ref i2) ∧ (∃ a b, IsPair h TO a b) ∧ h.IsListIter i1 l1 i ∧ h.IsListIter i2 l2 i) where
  mem := by simp
  obj := fun i h ⟨hz, hTI, ⟨a, b, hTO⟩, ⟨o1, e1, c1, d1⟩, ⟨o2, e2, c2, d2⟩⟩ b hb => by
    simp at hb
    rcases hb with rfl | rfl | rfl | rfl | rfl
    · exact ⟨_, hz, fun v z => by cases z⟩
    · exact ⟨_, hTI, fun v z => by cases z⟩
    · exact ⟨_, hTO, fun v z => by cases z⟩
    · exact ⟨_, e1, fun v z => by rw [d1] at z; cases z⟩
    · exact ⟨_, e2, fun v z => by rw [d2] at z; cases z⟩
  keep := fun i h h' ⟨hz, hTI, ⟨a, b, hTO⟩, h1, h2⟩ k => ⟨k z (by simp) _ hz, k TI (by simp) _ hTI, ⟨a, b, k TO (by simp) _ hTO⟩, h1.at fun o e => k i1 (by simp) o e, h2.at fun o e => k i2 (by simp) o e⟩
  item := by
    intro X hP hw hK hc i pins s σ H E I hf st hg
    subst hP hw hK
    obtain ⟨hz, hTI, ⟨a, b, hTO⟩, h1, h2⟩ := st
    obtain ⟨xs, ys, x, y, hq1, hq2, hx, hy⟩ := hg
    obtain ⟨its1, rv1, p1, hz1⟩ := I.list hq1
    obtain ⟨u1, hu1, ru1⟩ := rv1.get hx
    obtain ⟨its2, rv2, p2, hz2⟩ := I.list hq2
    obtain ⟨u2, hu2, ru2⟩ := rv2.get hy
    have D := zip_apart hz hTI hTO h1 h2 n12 nT p1.isList p2.isList
    refine wpAny_pyNext_zip_item D hz hTI hTO h1 h2 p1.isList p2.isList (x := u1) (y := u2) (by simpa using hu1) (by simpa using hu2) fun h' a1 a2 a3 a4 a5 a6 kk => ?_
    refine ⟨_, rfl, wpAny_letOwnedTupleGo_zip (s := { s with heap := h' }) a1 fun h'' z1 sb => ?_⟩
    have kz : ∀ c o, c ∉ [z, TI, TO, i1, i2] → s.heap.get? c = some o → h''.get? c = some o := fun c o hc e => sb.extBut c o (fun q => hc (by simp [q])) (kk c o (fun q => hc (by simp [q])) (fun q => hc (by simp [q])) (fun q => hc (by simp [q])) (fun q => hc (by simp [q])) e)
    have I1 : Inv X pins σ H { s with heap := h'' } := I.turnedN (t' := s.toks) (ch := [z, TI, TO, i1, i2]) kz hf
    have fr : FpOk X pins H s.heap.objs.size := I.fpOk (Nat.le_refl _) I.fresh
    have nz : s.heap.objs.size ≠ z := Nat.ne_of_gt (Heap.lt_size hz)
    have tup : IsPair h'' s.heap.objs.size u1 u2 := sb.extBut _ _ nz a5
    have I2 : Inv X pins σ (upd H s.heap.objs.size (.tup [x, y])) { s with heap := h'' } := I1.trackTup (its := [u1, u2]) fr (by
        cases q : X.s₀.heap.get? s.heap.objs.size with
        | none => rfl
        | some o => exact absurd (Nat.lt_of_lt_of_le (Heap.lt_size q) I.sz) (Nat.lt_irrefl _)) (by show 2 ≤ sizeLine; rw [sizeLine_eq]; decide) (.cons ru1 (.cons ru2 .nil)) ⟨_, tup, rfl, 0, rfl⟩
    refine ⟨.ref s.heap.objs.size, _, I2, rfl, ⟨_, rfl, fr.1, fun xs' ys' x' y' e1 e2 e3 e4 => ?_⟩, ⟨z1, sb.extBut _ _ D.TIz (kk _ _ D.TIz D.TITO D.TIi1 D.TIi2 hTI), ⟨_, _, sb.extBut _ _ D.TOz a2⟩, a3.extBut sb.extBut D.i1z, a4.extBut sb.extBut D.i2z⟩, fun b hb => ?_⟩
    · rw [I.list_inj e1 hq1, hx] at e3
      rw [I.list_inj e2 hq2, hy] at e4
      cases e3
      cases e4
      rfl
    · have nb : b ≠ s.heap.objs.size := by
        have lt : ∀ {c o}, s.heap.get? c = some o → c ≠ s.heap.objs.size := fun e => Nat.ne_of_lt (Heap.lt_size e)
        obtain ⟨o1, e1, _⟩ := h1
        obtain ⟨o2, e2, _⟩ := h2
        simp at hb
        rcases hb with rfl | rfl | rfl | rfl | rfl
        · exact lt hz
        · exact lt hTI
        · exact lt hTO
        · exact lt e1
        · exact lt e2
      rw [upd_ne nb]
      exact (hf b hb).1
  done := by
    intro X hP hw hK hc i pins s σ H E I hf st hg
    subst hP hw hK
    obtain ⟨hz, hTI, ⟨a, b, hTO⟩, h1, h2⟩ := st
    obtain ⟨xs, ys, hq1, hq2, hend⟩ := hg
    obtain ⟨its1, rv1, p1, hz1⟩ := I.list hq1
    obtain ⟨its2, rv2, p2, hz2⟩ := I.list hq2
    have D := zip_apart hz hTI hTO h1 h2 n12 nT p1.isList p2.isList
    have l1' := rv1.length
    have l2' := rv2.length
    refine wpAny_pyNext_zip_end (I.ok.hd hc) D hz hTI hTO h1 h2 p1.isList p2.isList (by rcases hend with q | q; exact .inl (by simp; omega); exact .inr (by simp; omega)) fun h' kk => ⟨rfl, ?_⟩
    exact I.turnedN (t' := s.toks) (ch := [z, TI, TO, i1, i2]) (fun c o hc e => kk c o (fun q => hc (by simp [q])) (fun q => hc (by simp [q])) (fun q => hc (by simp [q])) (fun q => hc (by simp [q])) e) hf
  self := fun _ _ _ _ _ st h => wpAny_pyIter_zip st.1 h

theorem turn_enum {P : Program} {w : World} {K : PySem.W.Frag} {es : List Expr} {x1} {tp : Pos} (l e it : Addr) (n12 : e ≠ it) : Turn P w K (.Tuple es x1 tp) (Ite K l) [e, it] e
    (fun i h => (∃ old, IsEnum h e it i old) ∧ h.IsListIter it l i) where
  mem := by simp
  obj := fun i h ⟨⟨old, he⟩, ⟨o1, e1, c1, d1⟩⟩ b hb => by
    simp at hb
    rcases hb with rfl | rfl
    · exact ⟨_, he, fun v z => by cases z⟩
    · exact ⟨_, e1, fun v z => by rw [d1] at z; cases z⟩
  keep := fun i h h' ⟨⟨old, he⟩, h1⟩ k => ⟨⟨old, k e (by simp) _ he⟩, h1.at fun o q => k it (by simp) o q⟩
  item := by
    intro X hP hw hK hc i pins s σ H E I hf st hg
    subst hP hw hK
    obtain ⟨⟨old, he⟩, h1⟩ := st
    obtain ⟨xs, x, hq1, hx⟩ := hg
    obtain ⟨its1, rv1, p1, hz1⟩ := I.list hq1
    obtain ⟨u1, hu1, ru1⟩ := rv1.get hx
    refine wpAny_pyNext_enum_item he h1 p1.isList (x := u1) (by simpa using hu1) n12 fun h' a1 a3 a5 a6 kk => ?_
    refine ⟨_, rfl, wpAny_letOwnedTupleGo_enum (s := { s with heap := h', toks := s.toks + 1 }) a1 fun h'' z1 sb => ?_⟩
    have kz : ∀ c o, c ∉ [e, it] → s.heap.get? c = some o → h''.get? c = some o := fun c o hc q => sb.extBut c o (fun q => hc (by simp [q])) (kk c o (fun q => hc (by simp [q])) (fun q => hc (by simp [q])) q)
    have I1 : Inv X pins σ H { s with heap := h'', toks := s.toks + 1 } := I.turnedN (t' := s.toks + 1) (ch := [e, it]) kz hf
    have fr : FpOk X pins H s.heap.objs.size := I.fpOk (Nat.le_refl _) I.fresh
    have nz : s.heap.objs.size ≠ e := Nat.ne_of_gt (Heap.lt_size he)
    have tup : h''.get? s.heap.objs.size = some { cls := .type "tuple", data := .seq #[.int i s.toks, u1] } := sb.extBut _ _ nz a5
    have I2 : Inv X pins σ (upd H s.heap.objs.size (.tup [.int i, x])) { s with heap := h'', toks := s.toks + 1 } := I1.trackTup (its := [.int i s.toks, u1]) fr (by
        cases q : X.s₀.heap.get? s.heap.objs.size with
        | none => rfl
        | some o => exact absurd (Nat.lt_of_lt_of_le (Heap.lt_size q) I.sz) (Nat.lt_irrefl _)) (by show 2 ≤ sizeLine; rw [sizeLine_eq]; decide) (.cons ⟨_, rfl⟩ (.cons ru1 .nil)) ⟨_, tup, rfl, 0, rfl⟩
    refine ⟨.ref s.heap.objs.size, _, I2, rfl, ⟨_, rfl, fr.1, fun xs' x' e1 e3 => ?_⟩, ⟨⟨_, z1⟩, a3.extBut sb.extBut (Ne.symm n12)⟩, fun b hb => ?_⟩
    · rw [I.list_inj e1 hq1, hx] at e3
      cases e3
      rfl
    · have nb : b ≠ s.heap.objs.size := by
        have lt : ∀ {c o}, s.heap.get? c = some o → c ≠ s.heap.objs.size := fun e => Nat.ne_of_lt (Heap.lt_size e)
        obtain ⟨o1, e1, _⟩ := h1
        simp at hb
        rcases hb with rfl | rfl
        · exact lt he
        · exact lt e1
      rw [upd_ne nb]
      exact (hf b hb).1
  done := by
    intro X hP hw hK hc i pins s σ H E I hf st hg
    subst hP hw hK
    obtain ⟨⟨old, he⟩, h1⟩ := st
    obtain ⟨xs, hq1, hend⟩ := hg
    obtain ⟨its1, rv1, p1, hz1⟩ := I.list hq1
    have l1' := rv1.length
    refine wpAny_pyNext_enum_end (I.ok.hd hc) he h1 p1.isList (by simp; omega) fun h' kk => ⟨rfl, ?_⟩
    exact I.turnedN (t' := s.toks) (ch := [e, it]) (fun c o hc q => kk c o (fun q => hc (by simp [q])) q) hf
  self := fun _ _ _ _ _ st h => wpAny_pyIter_enum st.1.choose_spec h

theorem boot_zip : bootBuiltins "zip" = some (.type "zip") := by decide +kernel
theorem boot_enum : bootBuiltins "enumerate" = some (.type "enumerate") := by decide +kernel

section
variable {X : Cx} {es : List Expr} {x1 : Nat} {tp : Pos}
def iZip (K : PySem.W.Frag) (ta : TA) : TI := fun σ H R => ta σ H fun vs H1 => ∃ l1 l2 xs ys, vs = [.ref l1, .ref l2] ∧ SqL K H1 l1 xs ∧ SqL K H1 l2 ys ∧ R (Itz K l1 l2) H1
def iEnum (K : PySem.W.Frag) (ta : TA) : TI := fun σ H R => ta σ H fun vs H1 => ∃ l xs, vs = [.ref l] ∧ SqL K H1 l xs ∧ R (Ite K l) H1
theorem pi_zip {a b : Expr} {ta : TA} {p pos : Pos} (hg : Gl X "zip") (hm : X.mg "zip" = none) (ha : PA X [a, b] ta) (hs : starEach [a, b] X.env = [(false, eval a X.env), (false, eval b X.env)] := by rfl) (hs2 : starEach [b] X.env = [(false, eval b X.env)] := by rfl) :
    PI X (.Tuple es x1 tp) (.Call (.Name "zip" p) [a, b] [] pos) (iZip X.K ta) := by
  intro pins s σ H R I h
  refine Call_ (ld_blt I hg hm boot_zip (PyProof.Rows.callWith_type1 (thn (ha pos pins s σ H _ I h) fun us s1 ⟨vs, H1, I1, r1, q1⟩ => ?_) (by rw [hs, hs2]) (by rw [hs2]; rfl)))
  obtain ⟨l1, l2, xs, ys, e, hx, hy, q⟩ := q1
  subst e
  cases r1 with
  | cons r rr =>
    cases rr with
    | cons r' rr =>
      cases rr
      cases r
      cases r'
      obtain ⟨its1, rv1, p1, hz1⟩ := I1.list hx
      obtain ⟨its2, rv2, p2, hz2⟩ := I1.list hy
      refine call_zip_2 p1.isList p2.isList fun h' a1 a2 a3 a4 a5 a6 kk => wpAny_pyIter_zip a1 ?_
      refine ⟨_, _, _, _, H1, rfl, I1.kept (t' := s1.toks) kk, turn_zip l1 l2 (s1.heap.objs.size + 4) (s1.heap.objs.size + 2) (s1.heap.objs.size + 3) s1.heap.objs.size (s1.heap.objs.size + 1) (Nat.ne_of_lt (Nat.lt_succ_self _)) (Nat.ne_of_lt (Nat.lt_succ_self _)), ⟨a1, a2, ⟨_, _, a3⟩, a4, a5⟩, fun b hb => ?_, q⟩
      have hb' : s1.heap.objs.size ≤ b := by
        simp at hb
        rcases hb with rfl | rfl | rfl | rfl | rfl
        · exact Nat.le_add_right _ 4
        · exact Nat.le_add_right _ 2
        · exact Nat.le_add_right _ 3
        · exact Nat.le_refl _
        · exact Nat.le_add_right _ 1
      exact I1.fpOk hb' (I1.hok.fresh hb')
theorem pi_enum {a : Expr} {ta : TA} {p pos : Pos} (hg : Gl X "enumerate") (hm : X.mg "enumerate" = none) (ha : PA X [a] ta) (hs : starEach [a] X.env = [(false, eval a X.env)] := by rfl) :
    PI X (.Tuple es x1 tp) (.Call (.Name "enumerate" p) [a] [] pos) (iEnum X.K ta) := by
  intro pins s σ H R I h
  refine Call_ (ld_blt I hg hm boot_enum (PyProof.Rows.callWith_type1 (thn (ha pos pins s σ H _ I h) fun us s1 ⟨vs, H1, I1, r1, q1⟩ => ?_) hs rfl))
  obtain ⟨l, xs, e, hx, q⟩ := q1
  subst e
  cases r1 with
  | cons r rr =>
    cases rr
    cases r
    obtain ⟨its1, rv1, p1, hz1⟩ := I1.list hx
    refine call_enumerate_list p1.isList fun h' a1 a2 a6 kk => wpAny_pyIter_enum a1 ?_
    refine ⟨_, _, _, _, H1, rfl, I1.kept (t' := s1.toks) kk, turn_enum l (s1.heap.objs.size + 1) s1.heap.objs.size (Nat.ne_of_gt (Nat.lt_succ_self _)), ⟨⟨_, a1⟩, a2⟩, fun b hb => ?_, q⟩
    have hb' : s1.heap.objs.size ≤ b := by
      simp at hb
      rcases hb with rfl | rfl
      · exact Nat.le_add_right _ 1
      · exact Nat.le_refl _
    exact I1.fpOk hb' (I1.hok.fresh hb')
end

/-! ### the forms one uses -/
theorem Same.rfl' {H : Hp} : Same H H := fun _ _ e => e
theorem Same.tr {H H1 H2 : Hp} (a : Same H H1) (b : Same H1 H2) : Same H H2 := fun x o e => b x o (a x o e)
theorem Same.new {H H1 : Hp} {D : Addr} {o : HO} (a : Same H H1) (hn : H D = none) : Same H (upd H1 D o) := fun b u e => by
  rw [upd_ne (ne_of_none e hn)]
  exact a b u e
/-- a comprehension that writes nothing but its own list: what lies there behind i turns -/
theorem comp_ext {J : It} {n : Nat} {H1 : Hp} {D : Addr} {g : TG} {tc : TT} {te : TE} {k : Nat} {cs : List Nat} {σ : St} {Q : VK} (hD : H1 D = none) (ys : Nat → List V) (y0 : ys 0 = []) (hl : ∀ i, i < n → (ys i).length < sizeLine)
    (step : ∀ i H, i < n → Same H1 H → H D = some (.lst (ys i)) → J.go i H ∧ ∀ (K1 : VK) (K2 : Hp → Prop), (∀ y H4, Same H H4 → ys (i + 1) = ys i ++ [y] → K1 y H4) → (∀ H3, Same H H3 → ys (i + 1) = ys i → K2 H3) →
      ∀ x H', J.yld i H x H' → g x (capv k cs σ) H' fun σ2 H2 => σ2.drop k = cs.map (fun i => σ.getD i none) ∧ tc σ2 H2 fun b H3 => if b = true then te σ2 H3 K1 else K2 H3)
    (fin : ∀ H, Same H1 H → H D = some (.lst (ys n)) → J.stop n H ∧ Q (.ref D) H) : CompW J k cs σ g tc te Q H1 D := by
  refine ⟨fun i m zs H => m = n - i ∧ i ≤ n ∧ zs = ys i ∧ Same H1 H ∧ H D = some (.lst zs), ⟨n, by simp, Nat.zero_le _, y0.symm, Same.rfl'.new hD, upd_same⟩, ?_⟩
  rintro i m zs H ⟨rfl, hi, rfl, sm, hDi⟩
  by_cases hlt : i < n
  · obtain ⟨go, st⟩ := step i H hlt sm hDi
    refine .inr ⟨go, st _ _ (fun v H4 s4 e4 => ?_) (fun H3 s3 e3 => ?_)⟩
    · exact ⟨s4 _ _ hDi, hl i hlt, n - (i + 1), by omega, rfl, hlt, e4.symm, (sm.tr s4).new hD, upd_same⟩
    · exact ⟨n - (i + 1), by omega, rfl, hlt, e3.symm, sm.tr s3, s3 _ _ hDi⟩
  · have e : i = n := by omega
    subst e
    exact .inl (fin H sm hDi)

theorem comp_ext0 {J : It} {n : Nat} {H1 : Hp} {D : Addr} {g : TG} {te : TE} {k : Nat} {cs : List Nat} {σ : St} {Q : VK} (hD : H1 D = none) (ys : Nat → List V) (y0 : ys 0 = []) (hl : ∀ i, i < n → (ys i).length < sizeLine)
    (step : ∀ i H, i < n → Same H1 H → H D = some (.lst (ys i)) → J.go i H ∧ ∀ (K1 : VK), (∀ y H4, Same H H4 → ys (i + 1) = ys i ++ [y] → K1 y H4) →
      ∀ x H', J.yld i H x H' → g x (capv k cs σ) H' fun σ2 H2 => σ2.drop k = cs.map (fun i => σ.getD i none) ∧ te σ2 H2 K1)
    (fin : ∀ H, Same H1 H → H D = some (.lst (ys n)) → J.stop n H ∧ Q (.ref D) H) : CompW J k cs σ g tNoIf te Q H1 D := by
  refine comp_ext hD ys y0 hl (fun i H hi sm hDi => ?_) fin
  obtain ⟨go, st⟩ := step i H hi sm hDi
  exact ⟨go, fun K1 K2 k1 k2 x H' y => st K1 k1 x H' y⟩

/-! ### built-ins over lists -/
theorem ints_are : ∀ {ns : List Int} {its : List Value}, Vals (ns.map V.int) its → IntsAre its ns
  | [], _, .nil => .nil
  | n :: ns, _, .cons r t => by
    obtain ⟨k, rfl⟩ := r
    exact .cons n k (ints_are t)
theorem of_ints : ∀ {ns : List Int} {its : List Value}, IntsAre its ns → Vals (ns.map V.int) its
  | _, _, .nil => .nil
  | _, _, .cons n t r => .cons ⟨t, rfl⟩ (of_ints r)
section
variable {X : Cx}
theorem vals_bools {bs : List Bool} {its : List Value} (r : Vals (bs.map V.bl) its) : its = bs.map Value.bool := by
  induction bs generalizing its with
  | nil => cases r; rfl
  | cons b bs ih =>
    cases r with
    | cons r t => cases r; rw [ih t]; rfl
theorem truth_bools {prog : Program} {w : World} {A : Around} {bs : List Bool} : TruthOf prog w A (fun i v => (bs.map Value.bool).toArray[i]? = some v) (fun i => bs.getD i false) := fun i v s Q E hP hQ => by
  have e : bs[i]?.map Value.bool = some v := by simpa using hP
  cases q : bs[i]? with
  | none => rw [q] at e; cases e
  | some b =>
    rw [q] at e
    cases e
    have : bs.getD i false = b := by rw [List.getD_eq_getElem?_getD, q]; rfl
    exact wpAny_pure (this ▸ hQ)
theorem range_all {bs : List Bool} : (List.range bs.length).all (fun i => bs.getD i false) = bs.all id := by
  rw [Bool.eq_iff_iff, List.all_eq_true, List.all_eq_true]
  constructor
  · intro h b hb
    obtain ⟨i, hi, e⟩ := List.mem_iff_getElem.mp hb
    have := h i (List.mem_range.mpr hi)
    rw [List.getD_eq_getElem?_getD, List.getElem?_eq_getElem hi, e] at this
    exact this
  · intro h i hi
    have hi := List.mem_range.mp hi
    rw [List.getD_eq_getElem?_getD, List.getElem?_eq_getElem hi]
    exact h _ (List.getElem_mem hi)
theorem kept_it {s : Shared} {l : Addr} {h' : Heap} (hk : ∀ b o, b ∉ [s.heap.objs.size] → (s.heap.push { cls := .type "list_iterator", data := .fields #[.ref l, .int 0 0] }).get? b = some o → h'.get? b = some o) :
    ∀ b o, s.heap.get? b = some o → h'.get? b = some o := fun b o e => by
  refine hk b o (fun hm => ?_) (Heap.get?_push_of_some _ e)
  rcases List.mem_cons.mp hm with e1 | hm
  · exact absurd (e1 ▸ Heap.lt_size e) (Nat.lt_irrefl _)
  · cases hm
theorem call_allB (hc : X.calm = true) : CallR X (.builtin "all") (fun xs H Q => ∃ (p : Addr) (bs : List Bool), xs = [.ref p] ∧ SqL X.K H p (bs.map V.bl) ∧ Q (.bl (bs.all id)) H) := by
  intro pins s σ H xs us Q I r h
  obtain ⟨p, bs, rfl, hp, q⟩ := h
  obtain ⟨u, rfl, ru⟩ := r.one
  cases ru
  obtain ⟨its, rv, pl, hz⟩ := I.list hp
  have e := vals_bools rv
  subst e
  have hlt : p < s.heap.objs.size := by obtain ⟨_, e, _⟩ := pl.isList; exact Heap.lt_size e
  refine call_all_walk (wpAny_pyIter_list pl.isList ?_)
  refine ⟨_, _, _, _, _, _, fun i => bs.getD i false, rfl, Walks.list (A := X.A.in1) (I.ok.hd hc) _ p (Nat.ne_of_lt hlt) _, ⟨⟨_, Heap.get?_push_size _ rfl, rfl, rfl⟩, pl.isList.push _⟩, truth_bools, fun h' tk hk => ?_⟩
  refine ⟨.bl (bs.all id), H, I.kept (kept_it hk), ?_, q⟩
  show Value.bool _ = Value.bool _
  rw [List.size_toArray, List.length_map, range_all]
theorem ints_get {its : List Value} {ns : List Int} (h : IntsAre its ns) : ∀ i v, its.toArray[i]? = some v → ∃ t, v = Value.int (ns.getD i 0) t := by
  suffices q : ∀ i v, its[i]? = some v → ∃ t, v = Value.int (ns.getD i 0) t from fun i v e => q i v (by simpa using e)
  induction h with
  | nil => intro i v e; simp at e
  | cons n t _ ih =>
    intro i v e
    cases i with
    | zero => simp at e; exact ⟨t, by simp [← e]⟩
    | succ i => simpa using ih i v (by simpa using e)
theorem call_sumI (hc : X.calm = true) : CallR X (.builtin "sum") (fun xs H Q => ∃ (p : Addr) (ns : List Int), xs = [.ref p] ∧ SqL X.K H p (ns.map V.int) ∧ (∀ j, j ≤ ns.length → InLong ((ns.take j).sum)) ∧ (∀ n ∈ ns, InLong n) ∧ Q (.int ns.sum) H) := by
  intro pins s σ H xs us Q I r h
  obtain ⟨p, ns, rfl, hp, h1, h2, q⟩ := h
  obtain ⟨u, rfl, ru⟩ := r.one
  cases ru
  obtain ⟨its, rv, pl, hz⟩ := I.list hp
  have hI := ints_are rv
  have hlen := hI.length
  have hlt : p < s.heap.objs.size := by obtain ⟨_, e, _⟩ := pl.isList; exact Heap.lt_size e
  refine call_sum_walk (wpAny_pyIter_list pl.isList ?_)
  refine ⟨_, _, _, _, _, _, fun i => ns.getD i 0, rfl, Walks.list (A := X.A.in1) (I.ok.hd hc) _ p (Nat.ne_of_lt hlt) _, ⟨⟨_, Heap.get?_push_size _ rfl, rfl, rfl⟩, pl.isList.push _⟩, fun b hb => ?_, ints_get hI, fun j hj => ?_, fun h' tk t' hk => ?_⟩
  · show b < (s.heap.push _).objs.size
    rw [Heap.size_push]
    rcases List.mem_cons.mp hb with rfl | hb
    · exact Nat.lt_succ_self _
    · rcases List.mem_cons.mp hb with rfl | hb
      · exact Nat.lt_succ_of_lt hlt
      · cases hb
  · have hj : j < ns.length := by rw [← hlen]; simpa using hj
    rw [preSum_getD]
    refine ⟨?_, h1 _ hj⟩
    show InLong (ns.getD j 0)
    rw [List.getD_eq_getElem?_getD, List.getElem?_eq_getElem hj]
    exact h2 _ (List.getElem_mem hj)
  · refine ⟨.int ns.sum, H, I.kept (kept_it hk), ⟨t', ?_⟩, q⟩
    rw [preSum_getD, List.size_toArray, hlen, List.take_length]
def distinct (ns : List Int) : List Int := firstMet (fun i => ns.getD i 0) ns.length
theorem call_setI (hc : X.calm = true) : CallR X (.type "set") (fun xs H Q => ∃ (p : Addr) (ns : List Int), xs = [.ref p] ∧ SqL X.K H p (ns.map V.int) ∧ ns.length + 1 < scanBound ∧ ∀ d, H d = none → Q (.ref d) (upd H d (.set (fun k => (distinct ns).any (· == k)) (distinct ns).length))) := by
  intro pins s σ H xs us Q I r h
  obtain ⟨p, ns, rfl, hp, h1, q⟩ := h
  obtain ⟨u, rfl, ru⟩ := r.one
  cases ru
  obtain ⟨its, rv, pl, hz⟩ := I.list hp
  have hI := ints_are rv
  have hlen := hI.length
  have hsz : its.toArray.size = ns.length := by rw [List.size_toArray, hlen]
  refine PySem.call_set_list (ns := ns) (I.ok.hd hc) pl.isList (by simpa using hI) (by rw [hsz]; exact h1) fun h' tk hS hk => ?_
  rw [hsz] at hS
  exact ⟨.ref s.heap.objs.size, _, I.laid (o := .set (fun k => (distinct ns).any (· == k)) (distinct ns).length) (fun b o e => hk b o (Heap.lt_size e) e) (Nat.le_refl _) hS, rfl, q _ I.fresh⟩
theorem call_lenSet : CallR X (.builtin "len") (fun xs H Q => ∃ a S n, xs = [.ref a] ∧ H a = some (.set S n) ∧ (n : Int) < 2 ^ 63 ∧ Q (.int n) H) := by
  intro pins s σ H xs us Q I r h
  obtain ⟨a, S, n, rfl, ha, hn, q⟩ := h
  obtain ⟨u, rfl, ru⟩ := r.one
  cases ru
  have hS : s.heap.SetOf (intKind X.prog X.w) a S n := I.hok a _ ha
  obtain ⟨o, es, ep, t, e, ex, hd, _, _, _, hf, rfl⟩ := hS
  exact call_len_set e ex hd hf hn ⟨.int es.size, H, I.tok _, ⟨_, rfl⟩, q⟩
theorem call_sortedI : CallR X (.builtin "sorted") (fun xs H Q => ∃ (p : Addr) (ns : List Int), xs = [.ref p] ∧ SqL X.K H p (ns.map V.int) ∧ ns.length < 64 ∧ ∀ (d : Addr) (ns' : List Int), H d = none → ns'.Perm ns → ns'.Pairwise (· ≤ ·) → Q (.ref d) (upd H d (.lst (ns'.map V.int)))) := by
  intro pins s σ H xs us Q I r h
  obtain ⟨p, ns, rfl, hp, h1, q⟩ := h
  obtain ⟨u, rfl, ru⟩ := r.one
  cases ru
  obtain ⟨its, rv, pl, hz⟩ := I.list hp
  have hI := ints_are rv
  have hlen := hI.length
  refine sorted_ints pl.isList hI (by omega) fun out ns' a1 a2 a3 => ?_
  obtain ⟨e, he⟩ := sortedAll_at s.heap its out
  have hn : H (s.heap.objs.size + 1) = none := I.hok.fresh (Nat.le_succ _)
  refine ⟨.ref (s.heap.objs.size + 1), _, I.laid (t' := s.toks) (fun _ _ => sortedAll_old) (Nat.le_succ _) (a := s.heap.objs.size + 1) (o := .lst (ns'.map V.int)) ⟨?_, out.toList, e, of_ints a1, ?_⟩, rfl, q _ ns' hn a2 a3⟩
  · rw [List.length_map, a2.length_eq, sizeLine_eq]
    omega
  · rw [he]
def rIndex : V → List V → Hp → VK → Prop := fun x vs H Q => ∃ (l : Addr) (ns : List Int) (k : Int), x = .ref l ∧ vs = [.int k] ∧ H l = some (.lst (ns.map V.int)) ∧ k ∈ ns ∧ Q (.int (ns.idxOf k : Nat)) H
theorem mt_index : MtM X "list.index" rIndex := by
  intro pins s σ H x vs v us Q I rx rv h
  obtain ⟨l, ns, k, rfl, rfl, hH, hk, q⟩ := h
  cases rx
  obtain ⟨u, rfl, ru⟩ := rv.one
  obtain ⟨t, rfl⟩ := ru
  obtain ⟨z, its, n, r, hl, e⟩ := I.lstM hH
  have hi := ints_are r
  have hlen := hi.length
  have hj : ns.idxOf k < ns.length := List.idxOf_lt_length_iff.mpr hk
  have hs : sizeLine = 16777216 := sizeLine_eq
  rw [List.length_map] at z
  refine call_meets PySem.F.slot_list_index ⟨_, e, rfl⟩ PySem.F.entry_list_index (PySem.F.args_list_index_2 _ _)
    (SeqAt.list_indexAt l its.toArray n none #[] (.int k t) (isInt k) (ns.idxOf k) (by simpa [hlen] using hj) (by omega) ?_ ?_) ⟨e, fun y hy => (eq_isInt k t hi y (by simpa using hy)).at _ _, .int (ns.idxOf k : Nat), H, I.tok _, ⟨_, rfl⟩, q⟩
  · show isInt k its[ns.idxOf k] = true
    rw [isInt_at k hi _ (by omega) hj]
    simpa using List.getElem_idxOf hj
  · intro j hjs hlt
    show isInt k its[j] = false
    rw [isInt_at k hi j (by simpa using hjs) (by omega)]
    exact ne_of_lt_idxOf hlt _
end
end L2
namespace L2
open PySem PySem.Spec PyProof.Rows

/-! ### lists of pairs as tables -/
section
variable {κ : Type} [DecidableEq κ]
def valV (kvs : List (κ × V)) (k : κ) : Option V := (kvs.find? fun kv => decide (kv.1 = k)).map (·.2)
/-- in its place, or at the end -/
def putK (kvs : List (κ × V)) (k : κ) (v : V) : List (κ × V) :=
  if (kvs.any fun kv => decide (kv.1 = k)) = true then kvs.map (fun kv => if kv.1 = k then (kv.1, v) else kv) else kvs ++ [(k, v)]
theorem valV_nil {k : κ} : valV ([] : List (κ × V)) k = none := rfl
theorem valV_pos {p : κ × V} {r : List (κ × V)} {k : κ} (e : p.1 = k) : valV (p :: r) k = some p.2 := by simp [valV, List.find?_cons, e]
theorem valV_neg {p : κ × V} {r : List (κ × V)} {k : κ} (e : ¬ p.1 = k) : valV (p :: r) k = valV r k := by simp [valV, List.find?_cons, e]
theorem valV_any (k : κ) : ∀ kvs : List (κ × V), (kvs.any fun kv => decide (kv.1 = k)) = (valV kvs k).isSome
  | [] => rfl
  | p :: r => by
    rw [List.any_cons]
    by_cases e : p.1 = k
    · simp only [valV_pos e, decide_eq_true e, Bool.true_or, Option.isSome_some]
    · rw [valV_neg e, decide_eq_false e, Bool.false_or]; exact valV_any k r
theorem valV_map (k j : κ) (y : V) : ∀ kvs : List (κ × V), valV (kvs.map fun kv => if kv.1 = k then (kv.1, y) else kv) j = (valV kvs j).map fun x => if j = k then y else x
  | [] => rfl
  | p :: r => by
    have ih := valV_map k j y r
    rw [List.map_cons]
    by_cases h : p.1 = k
    · rw [if_pos h]
      by_cases e : p.1 = j
      · rw [valV_pos (p := (p.1, y)) e, valV_pos e, Option.map_some, if_pos (e.symm.trans h)]
      · rw [valV_neg (p := (p.1, y)) e, valV_neg e, ih]
    · rw [if_neg h]
      by_cases e : p.1 = j
      · rw [valV_pos (p := p) e, valV_pos e, Option.map_some, if_neg (fun z => h (e.trans z))]
      · rw [valV_neg (p := p) e, valV_neg e, ih]
theorem valV_snoc (k j : κ) (y : V) : ∀ kvs : List (κ × V), valV kvs k = none → valV (kvs ++ [(k, y)]) j = if j = k then some y else valV kvs j
  | [], _ => by
    by_cases e : k = j
    · rw [if_pos e.symm]; exact valV_pos (p := (k, y)) e
    · rw [if_neg (fun z => e z.symm)]; exact valV_neg (p := (k, y)) e
  | p :: r, hn => by
    rw [List.cons_append]
    have hk : ¬ p.1 = k := fun z => by rw [valV_pos z] at hn; cases hn
    rw [valV_neg hk] at hn
    have ih := valV_snoc k j y r hn
    by_cases e : p.1 = j
    · rw [valV_pos e, valV_pos e, if_neg (fun z => hk (e.trans z))]
    · rw [valV_neg e, valV_neg e, ih]
theorem valV_put (kvs : List (κ × V)) (k j : κ) (y : V) : valV (putK kvs k y) j = if j = k then some y else valV kvs j := by
  unfold putK
  by_cases a : (kvs.any fun kv => decide (kv.1 = k)) = true
  · rw [if_pos a, valV_map]
    rw [valV_any] at a
    by_cases e : j = k
    · obtain ⟨x, hx⟩ := Option.isSome_iff_exists.mp a
      rw [if_pos e, e, hx, Option.map_some, if_pos rfl]
    · rw [if_neg e]
      cases valV kvs j with
      | none => rfl
      | some x => rw [Option.map_some, if_neg e]
  · rw [if_neg a]
    refine valV_snoc k j y kvs ?_
    rw [valV_any] at a
    cases q : valV kvs k with
    | none => rfl
    | some x => rw [q] at a; exact (a rfl).elim
theorem length_putK (kvs : List (κ × V)) (k : κ) (v : V) : (putK kvs k v).length ≤ kvs.length + 1 := by
  unfold putK
  split
  · rw [List.length_map]; omega
  · rw [List.length_append, List.length_cons, List.length_nil]; omega
theorem RelO.isSome_eq {o : Option V} {u : Option Value} (r : RelO o u) : o.isSome = u.isSome := by
  cases o with
  | none => cases u with
    | none => rfl
    | some _ => exact (show False from r).elim
  | some _ => cases u with
    | none => exact (show False from r).elim
    | some _ => rfl
/-- raw tables of the same keys -/
theorem KV.val {kvs : List (κ × V)} {vs : List (κ × Value)} (r : KV kvs vs) (k : κ) : RelO (valV kvs k) (valueAt vs k) := by
  unfold KV at r
  induction r with
  | nil => exact True.intro
  | @cons p q ps qs h t ih =>
    obtain ⟨h1, h2⟩ := h
    by_cases e : p.1 = k
    · have e' : q.1 = k := h1.symm.trans e
      have b : valueAt (q :: qs) k = some q.2 := by simp [valueAt, List.find?_cons, e']
      rw [valV_pos e, b]; exact h2
    · have e' : ¬ q.1 = k := fun z => e (h1.trans z)
      have b : valueAt (q :: qs) k = valueAt qs k := by simp [valueAt, List.find?_cons, e']
      rw [valV_neg e, b]; exact ih
theorem KV.any {kvs : List (κ × V)} {vs : List (κ × Value)} (r : KV kvs vs) (k : κ) : (kvs.any fun kv => decide (kv.1 = k)) = vs.any fun kv => decide (kv.1 = k) := by
  unfold KV at r
  induction r with
  | nil => rfl
  | cons h t ih => rw [List.any_cons, List.any_cons, ih, h.1]
theorem KV.repl {kvs : List (κ × V)} {vs : List (κ × Value)} (r : KV kvs vs) (k : κ) {y : V} {u : Value} (ry : RelV y u) :
    KV (kvs.map fun kv => if kv.1 = k then (kv.1, y) else kv) (vs.map fun kv => if kv.1 = k then (kv.1, u) else kv) := by
  unfold KV at r ⊢
  induction r with
  | nil => exact .nil
  | @cons p q ps qs h t ih =>
    rw [List.map_cons, List.map_cons]
    refine .cons ?_ ih
    obtain ⟨h1, h2⟩ := h
    by_cases e : p.1 = k
    · rw [if_pos e, if_pos (h1.symm.trans e)]; exact ⟨h1, ry⟩
    · rw [if_neg e, if_neg (fun z => e (h1.trans z))]; exact ⟨h1, h2⟩
theorem KV.put {kvs : List (κ × V)} {vs : List (κ × Value)} (r : KV kvs vs) (k : κ) {y : V} {u : Value} (ry : RelV y u) : KV (putK kvs k y) (stored vs k u) := by
  unfold putK stored
  rw [r.any k]
  by_cases e : (vs.any fun kv => decide (kv.1 = k)) = true
  · rw [if_pos e, if_pos e]; exact r.repl k ry
  · rw [if_neg e, if_neg e]; exact Paired.snoc r ⟨rfl, ry⟩
theorem KV.length {kvs : List (κ × V)} {vs : List (κ × Value)} (r : KV kvs vs) : kvs.length = vs.length := Paired.length r
end


/-! ### a tracked dict, its keys ints and texts or tuples of these -/
theorem kV_is {P : Program} {w : World} {k : Key} {u : Value} (r : RelV (kV k) u) : (mixKind P w).is k u = true := by
  cases k with
  | inl i => obtain ⟨t, e⟩ := (show ∃ t, u = Value.int i t from r); subst e; exact mixKind_int P w i t
  | inr x => obtain ⟨t, e⟩ := (show ∃ t, u = Value.str x t from r); subst e; exact mixKind_str P w x t
theorem items_are {P : Program} {w : World} : ∀ {ks : List Key} {us : List Value}, Vals (ks.map kV) us → ItemsAre (mixKind P w) ks us
  | [], _, r => by rw [List.map_nil] at r; cases r; exact .nil
  | k :: ks, _, r => by
    rw [List.map_cons] at r
    cases r with
    | cons h t => exact .cons (kV_is h) (items_are t)

/-- raw entries of a dict with tuple keys -/
abbrev KT (H : Hp) : List (List Key × V) → List (List Key × Addr × Value) → Prop := Paired fun p q => p.1 = q.1 ∧ H q.2.1 = some (.tup (p.1.map kV)) ∧ RelV p.2 q.2.2
theorem KT.val {H : Hp} {kvs : List (List Key × V)} {xs : List (List Key × Addr × Value)} (r : KT H kvs xs) (k : List Key) : RelO (valV kvs k) ((atKey xs k).map (·.2)) := by
  induction r with
  | nil => exact True.intro
  | @cons p q ps qs h t ih =>
    obtain ⟨h1, _, h2⟩ := h
    by_cases e : p.1 = k
    · have e' : q.1 = k := h1.symm.trans e
      have b : atKey (q :: qs) k = some q.2 := by simp [atKey, List.find?_cons, e']
      rw [valV_pos e, b]; exact h2
    · have e' : ¬ q.1 = k := fun z => e (h1.trans z)
      have b : atKey (q :: qs) k = atKey qs k := by simp [atKey, List.find?_cons, e']
      rw [valV_neg e, b]; exact ih
theorem KT.repl {H : Hp} {kvs : List (List Key × V)} {xs : List (List Key × Addr × Value)} (r : KT H kvs xs) (k : List Key) {y : V} {u : Value} (ry : RelV y u) :
    KT H (kvs.map fun kv => if kv.1 = k then (kv.1, y) else kv) (xs.map (putAt k u)) := by
  induction r with
  | nil => exact .nil
  | @cons p q ps qs h t ih =>
    rw [List.map_cons, List.map_cons]
    refine .cons ?_ ih
    obtain ⟨h1, h2, h3⟩ := h
    unfold putAt
    by_cases e : p.1 = k
    · rw [if_pos e, if_pos (h1.symm.trans e)]; exact ⟨h1, h2, ry⟩
    · rw [if_neg e, if_neg (fun z => e (h1.trans z))]; exact ⟨h1, h2, h3⟩
theorem KT.put {H : Hp} {kvs : List (List Key × V)} {xs : List (List Key × Addr × Value)} (r : KT H kvs xs) (k : List Key) {b : Addr} {y : V} {u : Value} (hb : H b = some (.tup (k.map kV))) (ry : RelV y u) :
    KT H (putK kvs k y) (storedH xs k b u) := by
  have e : (kvs.any fun kv => decide (kv.1 = k)) = (atKey xs k).isSome := by
    rw [valV_any, (r.val k).isSome_eq, Option.isSome_map]
  unfold putK storedH
  rw [e]
  by_cases q : (atKey xs k).isSome = true
  · rw [if_pos q, if_pos q]; exact r.repl k ry
  · rw [if_neg q, if_neg q]; exact Paired.snoc r ⟨rfl, hb, ry⟩
theorem KT.keeps {H H' : Hp} {kvs : List (List Key × V)} {xs : List (List Key × Addr × Value)} (r : KT H kvs xs) (ht : ∀ b ys, H b = some (.tup ys) → H' b = some (.tup ys)) : KT H' kvs xs :=
  Paired.mapP r fun _ _ z => ⟨z.1, ht _ _ z.2.1, z.2.2⟩

section
variable {P : Program} {w : World} {H : Hp} {h : Heap} {a : Addr}
theorem rd_of {u : HO} (ok : HOk P w H h) (e : Rd H a u) : ObjOk P w H h a u := e.ok ok
theorem dk_rd {kvs : List (Key × V)} (ok : HOk P w H h) (e : Rd H a (.dK kvs)) : kvs.length ≤ sizeLine ∧ (a == sysModules) = false ∧ ∃ vs, KV kvs vs ∧ h.DictOf (mixKind P w) a vs :=
  show ObjOk P w H h a (.dK kvs) from rd_of ok e
theorem dk_of {kvs : List (Key × V)} (ok : HOk P w H h) (e : H a = some (.dK kvs)) : kvs.length ≤ sizeLine ∧ (a == sysModules) = false ∧ ∃ vs, KV kvs vs ∧ h.DictOf (mixKind P w) a vs := dk_rd ok (.inl e)
/-- a tracked tuple of ints and texts is a key -/
theorem key_of {ks : List Key} (ok : HOk P w H h) (e : H a = some (.tup (ks.map kV))) : (tupleKind (mixKind P w)).is h ks a := by
  obtain ⟨_, its, r, o, h1, h2, n, h3⟩ := (show ObjOk P w H h a (.tup (ks.map kV)) from ok a _ e)
  exact ⟨o, its.toArray, n, h1, h2, h3, by simpa using items_are r⟩
theorem dt_rd {kvs : List (List Key × V)} (ok : HOk P w H h) (e : Rd H a (.dT kvs)) : kvs.length ≤ sizeLine ∧ (a == sysModules) = false ∧
    ∃ xs, KT H kvs xs ∧ h.DictOfH (tupleKind (mixKind P w)) a xs := by
  obtain ⟨z, y, xs, r, o, es, ep, h1, h2, h3, h4, h5⟩ := (show ObjOk P w H h a (.dT kvs) from rd_of ok e)
  refine ⟨z, y, xs, r, o, es, ep, h1, h2, h3, h4, fun x hx => ?_, h5⟩
  have all : ∀ {l : List (List Key × V)} {m : List (List Key × Addr × Value)}, KT H l m → ∀ x ∈ m, (tupleKind (mixKind P w)).is h x.1 x.2.1 := by
    intro l m q
    induction q with
    | nil => intro x hx; exact nomatch hx
    | @cons p q ps qs hq t ih =>
      intro x hx
      rcases List.mem_cons.mp hx with e | hx
      · subst e
        exact key_of ok (by rw [← hq.1]; exact hq.2.1)
      · exact ih x hx
  exact all r x hx
theorem dt_of {kvs : List (List Key × V)} (ok : HOk P w H h) (e : H a = some (.dT kvs)) : kvs.length ≤ sizeLine ∧ (a == sysModules) = false ∧
    ∃ xs, KT H kvs xs ∧ h.DictOfH (tupleKind (mixKind P w)) a xs := dt_rd ok (.inl e)
end

/-- what the dict at a holds at the key y -/
def DGet (H : Hp) (a : Addr) (y : V) (r : Option V) : Prop :=
  (∃ kvs k, Rd H a (.dK kvs) ∧ y = kV k ∧ r = valV kvs k) ∨ ∃ kvs k b, Rd H a (.dT kvs) ∧ y = .ref b ∧ H b = some (.tup (k.map kV)) ∧ r = valV kvs k
/-- the heap behind a[y] = v -/
def DPut (H : Hp) (a : Addr) (y v : V) (H' : Hp) : Prop :=
  (∃ kvs k, H a = some (.dK kvs) ∧ y = kV k ∧ kvs.length < sizeLine ∧ H' = upd H a (.dK (putK kvs k v))) ∨
  ∃ kvs k b, H a = some (.dT kvs) ∧ y = .ref b ∧ H b = some (.tup (k.map kV)) ∧ kvs.length < sizeLine ∧ H' = upd H a (.dT (putK kvs k v))
theorem DGet.k {H : Hp} {a : Addr} {kvs : List (Key × V)} {k : Key} (e : H a = some (.dK kvs)) : DGet H a (kV k) (valV kvs k) := .inl ⟨kvs, k, .inl e, rfl, rfl⟩
theorem DPut.k {H : Hp} {a : Addr} {kvs : List (Key × V)} {k : Key} {v : V} (e : H a = some (.dK kvs)) (hl : kvs.length < sizeLine) : DPut H a (kV k) v (upd H a (.dK (putK kvs k v))) := .inl ⟨kvs, k, e, rfl, hl, rfl⟩
section
variable {X : Cx} {pins : List (Addr × Obj)} {σ : St} {H : Hp} {s : Shared} {a : Addr} {y v : V} {u r : Value} {o : Option V} {A : Around} {E : Value → Shared → Prop}

theorem Inv.big (I : Inv X pins σ H s) : sysModules < s.heap.objs.size := by
  have h : mainGlobals < s.heap.objs.size := (I.mod.glob.keeps I.bk).lt
  exact Nat.lt_trans (by decide) h

/-- d[y], there -/
theorem d_getItem {Q : Value → Shared → Prop} (hu : A.units + 1 < cLine) (I : Inv X pins σ H s) (g : DGet H a y (some v)) (ry : RelV y u) (h : ∀ w' s', Inv X pins σ H s' → RelV v w' → Q w' s') :
    wpAny (model X.prog X.w) A (getItem (.ref a) u) Q E s := by
  rcases g with ⟨kvs, k, e, ey, l⟩ | ⟨kvs, k, b, e, ey, eb, l⟩
  · subst ey
    obtain ⟨z, hd, vs, rel, dd⟩ := dk_rd I.hok e
    obtain ⟨w', hw, rw'⟩ := RelO.some_of (v := v) (o := valueAt vs k) (by rw [l]; exact rel.val k)
    exact wpAny_getItem_of (kV_is ry) dd.mapOf hw (h w' _ (I.tok _) rw')
  · subst ey
    cases (show u = Value.ref b from ry)
    obtain ⟨z, hd, xs, rel, dd⟩ := dt_rd I.hok e
    obtain ⟨w', hw, rw'⟩ := RelO.some_of (v := v) (o := (atKey xs k).map (·.2)) (by rw [l]; exact rel.val k)
    obtain ⟨p, hp, hp2⟩ := Option.map_eq_some_iff.mp hw
    refine wpAny_getItem_heap (tupleKind_room_in1 hu) (key_of I.hok eb) dd hp ?_
    rw [hp2]
    exact h w' _ (I.tok _) rw'
/-- a dict's object is replaced -/
theorem d_write {h' : Heap} {t' : Nat} {ob : HO} (I : Inv X pins σ H s) (mu : Mut (H a)) (hs : Heap.SameBut a s.heap h') (he : ∃ q, h'.get? a = some q) (new : ObjOk X.prog X.w (upd H a ob) h' a ob) :
    Inv X pins σ (upd H a ob) { s with heap := h', toks := t' } :=
  I.write (x := a) (e := a) mu (.inl rfl) (fun b q hb z => (hs.2 b hb).trans z) he new
theorem dk_new {P : Program} {w : World} {H' : Hp} {h' : Heap} {kvs : List (Key × V)} {vs : List (Key × Value)} (z : kvs.length ≤ sizeLine) (hd : (a == sysModules) = false) (rel : KV kvs vs) (dd : h'.DictOf (mixKind P w) a vs) :
    ObjOk P w H' h' a (.dK kvs) := ⟨z, hd, vs, rel, dd⟩
/-- d[y] = v -/
theorem d_setItem {H' : Hp} {Q : Unit → Shared → Prop} (hu : A.units + 1 < cLine) (I : Inv X pins σ H s) (g : DPut H a y v H') (ry : RelV y u) (rv : RelV v r) (h : ∀ s', Inv X pins σ H' s' → Q () s') :
    wpAny (model X.prog X.w) A (setItem (.ref a) u r) Q E s := by
  rcases g with ⟨kvs, k, e, ey, l, eH⟩ | ⟨kvs, k, b, e, ey, eb, l, eH⟩
  · subst ey eH
    obtain ⟨z, hd, vs, rel, dd⟩ := dk_of I.hok e
    have hz : vs.length ≤ sizeLine := by rw [← rel.length]; exact z
    have hl : (putK kvs k v).length ≤ sizeLine := by have := length_putK kvs k v; omega
    refine wpAny_setItem_pairs (hsz := hz) (kV_is ry) dd fun h' dd' hs => h _ ?_
    have he : ∃ q, h'.get? a = some q := let ⟨q, _, _, hq, _⟩ := dd'; ⟨q, hq⟩
    exact d_write I (by rw [e]; exact True.intro) hs he (dk_new hl hd (rel.put k rv) dd')
  · subst ey eH
    cases (show u = Value.ref b from ry)
    obtain ⟨z, hd, xs, rel, dd⟩ := dt_of I.hok e
    have hz : xs.length ≤ sizeLine := by rw [← Paired.length rel]; exact z
    have hl : (putK kvs k v).length ≤ sizeLine := by have := length_putK kvs k v; omega
    refine wpAny_setItem_heap (hsz := hz) (tupleKind_room_in1 hu) (key_of I.hok eb) dd fun h' dd' hs => h _ ?_
    obtain ⟨q, es, ep, hq, h2, h3, h4, _, h5⟩ := dd'
    refine d_write I (by rw [e]; exact True.intro) hs ⟨q, hq⟩ ⟨hl, hd, _, (rel.put k eb rv).keeps fun c ys ec => ?_, q, es, ep, hq, h2, h3, h4, h5⟩
    rw [upd_ne (ne_of ec e (fun z => nomatch z))]
    exact ec
end

section
variable {X : Cx} {pins : List (Addr × Obj)} {σ : St} {H : Hp} {s : Shared} {a : Addr} {kvs : List (Key × V)} {k : Key} {u : Value} {A : Around} {E : Value → Shared → Prop}
end


/-! ### readings and rules -/
/-- the element of a subscription, not a slice -/
def NoSl (i : Expr) : Prop := ∀ ov iv, subscripted i false ov iv = operate [ov, iv] (getItem ov iv)
theorem subD_of {prog : Program} {w : World} {A : Around} {E : Value → Shared → Prop} {s : Shared} {env : Env} {value slice : Expr} {pos : Pos} {T id : String} {Q : Value → Shared → Prop}
    (hl : typeLookup (.type T) "__getitem__" = pure (some (.builtin id))) (hs : NoSl slice)
    (h : wpAny (model prog w) A (eval value env) (fun o s₁ => wpAny (model prog w) A (eval slice env) (fun i s₂ => s₂.TypeIs o T ∧ wpAny (model prog w) A (getItem o i) Q E s₂) E s₁) E s) :
    wpAny (model prog w) A (eval (.Subscript value slice pos) env) Q E s := by
  refine Subscript_ (wpAny_mono h (fun o s₁ h₁ => wpAny_mono h₁ (fun i s₂ h₂ => ?_) fun _ _ x => x) fun _ _ x => x)
  obtain ⟨hT, h₂⟩ := h₂
  unfold subscriptTail
  refine wpAny_bind ?_
  rw [getitemInPython_of_ne hT.not_modules]
  refine wpAny_bind (wpAny_specialOf hT hl ?_)
  have fin : wpAny (model prog w) A (subscripted slice false o i) (fun r s₃ => wpAny (model prog w) A (letTemporaryGo value o r >>= fun _ => pure r) Q E s₃) E s₂ := by
    rw [hs o i]
    exact wpAny_operating (wpAny_mono h₂ (fun r s₃ h₃ => wpAny_bind (wpAny_letTemporaryGo (wpAny_pure h₃))) fun _ _ x => x)
  first
    | exact wpAny_pure (wpAny_bind fin)
    | exact wpAny_bind (wpAny_pure (wpAny_bind fin))
    | exact wpAny_bind fin

theorem dict_typeIs {X : Cx} {pins : List (Addr × Obj)} {σ : St} {H : Hp} {s : Shared} {a : Addr} {y : V} {o : Option V} (I : Inv X pins σ H s) (g : DGet H a y o) : s.TypeIs (.ref a) "dict" := by
  rcases g with ⟨kvs, k, e, _, _⟩ | ⟨kvs, k, b, e, _, _, _⟩
  · obtain ⟨_, _, vs, _, dd⟩ := dk_rd I.hok e
    exact dd.typeIs
  · obtain ⟨_, _, xs, _, dd⟩ := dt_rd I.hok e
    exact dd.typeIs
/-- d[y] -/
def tDGet (td ty : TE) : TE := fun σ H Q => td σ H fun x H1 => ty σ H1 fun y H2 => ∃ a v, x = .ref a ∧ DGet H2 a y (some v) ∧ Q v H2
/-- d[y] = v -/
def sDPut (td ty tv : TE) : TS := fun D σ H => tv σ H fun v H1 => td σ H1 fun x H2 => ty σ H2 fun y H3 => ∃ a H4, x = .ref a ∧ DPut H3 a y v H4 ∧ D.nx σ H4
section
variable {X : Cx} {o i e value : Expr} {pos pos' tpos : Pos} {td ty tv : TE}
theorem pe_dget (hu : X.A.units + 1 < cLine) (ho : PE X o td) (hi : PE X i ty) (hs : NoSl i) : PE X (.Subscript o i pos) (tDGet td ty) := by
  intro pins s σ H Q I h
  refine subD_of PySem.F.slot_dict_getitem.lookup hs (thn (ho pins s σ H _ I h) fun u s1 ⟨x, H1, I1, rx, q1⟩ => thn (hi pins s1 σ H1 _ I1 q1) fun iv s2 ⟨y, H2, I2, ry, a, v, ex, g, q2⟩ => ?_)
  subst ex
  obtain rfl : u = Value.ref a := rx
  exact ⟨dict_typeIs I2 g, d_getItem hu I2 g ry fun w' s3 I3 rw' => ⟨v, H2, I3, rw', q2⟩⟩
theorem ps_dput (hu : X.A.units + 1 < cLine) (ho : PE X o td) (hi : PE X i ty) (hv : PE X value tv) (hs : swapsWith value (some (.Subscript o i pos')) pos.line X.env = pure false) :
    PS X (.Assign [.Subscript o i pos'] value pos) (sDPut td ty tv) := by
  intro pins s σ H D I h
  refine wpAny_Assign_Subscript (thn (hv pins s σ H _ I h) fun r s1 ⟨v, H1, I1, rv, q1⟩ => thn (ho pins s1 σ H1 _ I1 q1) fun u s2 ⟨x, H2, I2, rx, q2⟩ => thn (hi pins s2 σ H2 _ I2 q2) fun iv s3 ⟨y, H3, I3, ry, a, H4, ex, g, q3⟩ => ?_) hs
  subst ex
  obtain rfl : u = Value.ref a := rx
  exact d_setItem hu I3 g ry rv fun s4 I4 => ⟨σ, H4, I4, q3⟩
end


/-! ### displays -/
theorem dk_empty {P : Program} {w : World} {H : Hp} (h : Heap) (hb : sysModules < h.objs.size) : ObjOk P w H (h.push { cls := .type "dict", data := .dict #[] }) h.objs.size (.dK []) :=
  ⟨Nat.zero_le _, beq_eq_false_iff_ne.mpr (Ne.symm (Nat.ne_of_lt hb)), [], .nil, Heap.DictOf.new h⟩
/-- {}, to be a dict of the kind that is wanted -/
def tDNewK : TE := fun _ H Q => ∀ p, H p = none → Q (.ref p) (upd H p (.dK []))
section
variable {X : Cx} {pos : Pos}
theorem pe_dnewK : PE X (.Dict [] [] pos) tDNewK := fun pins s σ H Q I h =>
  wpAny_Dict_empty ⟨.ref s.heap.objs.size, _, I.laid (a := s.heap.objs.size) (o := .dK []) (t' := s.toks) (fun _ _ q => Heap.get?_push_of_some _ q) (Nat.le_refl _) (dk_empty s.heap I.big), rfl, h _ (I.hok.fresh (Nat.le_refl _))⟩
end

/-! ### methods -/
section
variable {X : Cx} {pins : List (Addr × Obj)} {σ : St} {H : Hp} {s : Shared} {a : Addr} {y d : V} {u r : Value} {o : Option V} {A : Around} {E : Value → Shared → Prop}
end

section
variable {X : Cx} {o e f : Expr} {apos cpos : Pos} {td ty tx : TE}
end

/-! ### dict(d): a copy -/
section
variable {X : Cx} {pins : List (Addr × Obj)} {σ : St} {H : Hp} {s : Shared} {a : Addr} {kvs : List (Key × V)} {A : Around} {E : Value → Shared → Prop}
end


section
variable {X : Cx} {pins : List (Addr × Obj)} {σ : St} {H : Hp} {s : Shared} {a : Addr} {y : V} {u : Value} {A : Around} {E : Value → Shared → Prop}
end
end L2
namespace L2
open PySem PySem.Spec PyProof.Rows XL PySem.Calls
open Sem (wp)
theorem nolen_rev : typeLookup (.type "list_reverseiterator") "__len__" = pure none := by rw [typeLookup_type, builtinLookup_eq_fast]; kernel_rfl
theorem hint_rev : typeLookup (.type "list_reverseiterator") "__length_hint__" = pure (some (.builtin "list_reverseiterator.__length_hint__")) := by rw [typeLookup_type, builtinLookup_eq_fast]; kernel_rfl
section
variable {prog : Program} {w : World} {A : Around} {E : Value → Shared → Prop} {s : Shared}
theorem rev_hint {r : Addr} {Q : Bool → Shared → Prop} (hT : s.TypeIs (.ref r) "list_reverseiterator") (h : Q false s) : wpAny (model prog w) A (Builtin.List.listLengthHint (.ref r)) Q E s := by
  unfold Builtin.List.listLengthHint
  refine wpAny_bind (wpAny_specialOf hT nolen_rev ?_)
  show wpAny _ A (specialOf (Value.ref r) (Str.ofString "__length_hint__") >>= _) _ _ _
  refine wpAny_bind (wpAny_specialOf hT hint_rev ?_)
  generalize hid : ("list_reverseiterator.__length_hint__" : String) = id0
  wp_delta
  rw [show splitId id0 = some ("list_reverseiterator", "__length_hint__") from by subst hid; decide +kernel]
  subst hid
  refine wpAny_bind (wpAny_isInstance (b := true) hT (by rw [isSubtype_type]; kernel_rfl) ?_)
  exact wpAny_pure h
theorem rev_extend {R : Result → Shared → Prop} {r l : Addr} {items : Array Value} (hh : A.handled = none) (hit : s.heap.IsRevIter r l ((items.size : Int) - 1)) (hl : s.heap.IsList l items) (hrl : l ≠ r) (S : Addr) (hSr : S ≠ r) (hSl : S ≠ l) (res : Value) (c₀ : Nat) (hS : s.heap.get? S = some { cls := .type "list", data := .seq #[] c₀ })
    (hR : ∀ h' tk acc' c', (∀ b o, b ≠ S → b ≠ r → s.heap.get? b = some o → h'.get? b = some o) → h'.get? S = some { cls := .type "list", dict := none, data := .seq acc' c', slots := #[] } → ItemsOf (fun i v => items[items.size - 1 - i]? = some v) acc' items.size → R (.ok (.ret res)) { s with heap := h', toks := tk }) (hn : items.size ≤ sizeLine) :
    wpAny (model prog w) A.in1 (Builtin.List.listExtendWith (.ref S) (.ref r) res)
      (fun fin s' => match fin with | .done f => R (.ok f) s' | .again c' => c'.quiet = true ∧ codeAny (model prog w) A c' R s') (fun e s' => R (.error e) s') s := by
  have hSf : S ∉ [r, l] := by simp only [List.mem_cons, List.not_mem_nil, or_false, not_or]; exact ⟨hSr, hSl⟩
  have W := Walks.listRev (prog := prog) (w := w) (A := A.in1) hh r l hrl items
  have st : (fun (i : Nat) (h : Heap) => i ≤ items.size ∧ h.IsRevIter r l ((items.size : Int) - 1 - (i : Int)) ∧ h.IsList l items) 0 s.heap := ⟨Nat.zero_le _, by simpa using hit, hl⟩
  have key : ∀ (h : Heap) (c₁ tk : Nat), (fun (i : Nat) (h : Heap) => i ≤ items.size ∧ h.IsRevIter r l ((items.size : Int) - 1 - (i : Int)) ∧ h.IsList l items) 0 h → (∀ b o, b ≠ S → s.heap.get? b = some o → h.get? b = some o) →
      h.get? S = some { cls := .type "list", data := .seq #[] c₁ } → codeAny (model prog w) A (.builtin "list.extend.loop" ⟨[.ref S, .ref r, res], []⟩) R { s with heap := h, toks := tk } := by
    intro h c₁ tk hst hk hS₁
    refine codeAny_extend_loopS W.toS hn S hSf res items.size 0 _ #[] c₁ rfl (Nat.zero_le _) hst hS₁ (ItemsOf.nil _) fun s' acc' c' hm hS' hacc => ?_
    rw [Moved.eq_with hm]
    refine hR s'.heap s'.toks acc' c' (fun b o hb hb2 e => hm.heap b o (fun hmem => ?_) (hk b o hb e)) hS' hacc
    rcases List.mem_cons.mp hmem with e' | hmem
    · exact hb e'
    · exact hb2 (List.mem_singleton.mp hmem)
  unfold Builtin.List.listExtendWith
  refine wpAny_bind (wpAny_typeOf (T := "list_reverseiterator") hit.typeIs ?_)
  have h1 : Builtin.List.listSameRef (.ref S) (.ref r) = false := by simp [Builtin.List.listSameRef, hSr]
  rw [if_neg (by rw [h1]; decide)]
  refine wpAny_bind (W.self 0 _ _ _ st ?_)
  refine wpAny_bind (wpAny_holding (rev_hint hit.typeIs ?_))
  rw [if_neg (by decide)]
  exact wpAny_pure ⟨plainId_quiet PySem.F.plain_extend_loop _, key _ c₀ _ st (fun b o _ e => e) hS⟩
theorem rev_call {r l : Addr} {items : Array Value} {Q : Value → Shared → Prop} (hh : A.handled = none) (hit : s.heap.IsRevIter r l ((items.size : Int) - 1)) (hl : s.heap.IsList l items) (hrl : l ≠ r) (hn : items.size ≤ sizeLine)
    (hQ : ∀ h' tk acc' c', (∀ b o, b ≠ r → s.heap.get? b = some o → h'.get? b = some o) → h'.get? s.heap.objs.size = some { cls := .type "list", dict := none, data := .seq acc' c', slots := #[] } → ItemsOf (fun i v => items[items.size - 1 - i]? = some v) acc' items.size → Q (.ref s.heap.objs.size) { s with heap := h', toks := tk }) :
    wpAny (model prog w) A (call (.type "list") [.ref r]) Q E s := by
  refine callType_codes (Q₁ := fun obj s₁ => obj = .ref s.heap.objs.size ∧ s₁ = { s with heap := s.heap.push { cls := .type "list", data := .seq #[] } }) PySem.F.called_list (PySem.F.typeCall_list_1 _) PySem.F.entry_list_init
    (code_list_new _ ⟨rfl, rfl⟩) fun obj s₁ h₁ => ?_
  obtain ⟨rfl, rfl⟩ := h₁
  have hS : (s.heap.push { cls := .type "list", data := .seq #[] }).get? s.heap.objs.size = some { cls := .type "list", data := .seq #[] } := Heap.get?_push_size _ rfl
  have hr : r < s.heap.objs.size := by obtain ⟨o, e, _⟩ := hit; exact Heap.lt_size e
  have hl' : l < s.heap.objs.size := by obtain ⟨o, e, _⟩ := hl; exact Heap.lt_size e
  have nr : s.heap.objs.size ≠ r := Nat.ne_of_gt hr
  have nl : s.heap.objs.size ≠ l := Nat.ne_of_gt hl'
  refine ⟨⟨_, hS, rfl⟩, PySem.F.args_list_init_2 _ _, ?_⟩
  show wpAny _ _ (do let old ← Builtin.List.listItems (.ref s.heap.objs.size); Builtin.List.listUpdate (.ref s.heap.objs.size) (fun _ => #[]); letGo old.toList.reverse; Builtin.List.listExtendWith (.ref s.heap.objs.size) (.ref r) .none) _ _ _
  refine wpAny_bind ?_
  unfold Builtin.List.listItems
  refine wpAny_bind (wpAny_seqItems hS rfl (wpAny_pure ?_))
  show wpAny _ _ (updateSeq s.heap.objs.size (fun _ => #[]) >>= fun _ => letGo (#[] : Array Value).toList.reverse >>= fun _ => Builtin.List.listExtendWith (.ref s.heap.objs.size) (.ref r) .none) _ _ _
  refine wpAny_bind (wpAny_updateSeq hS rfl ?_)
  have hS₂ := Heap.get?_update_self (Obj.mapSeq (fun _ => (#[] : Array Value))) hS rfl
  have oth : ∀ b o, b ≠ s.heap.objs.size → (s.heap.push { cls := .type "list", data := .seq #[] }).get? b = some o → ((s.heap.push { cls := .type "list", data := .seq #[] }).update s.heap.objs.size (Obj.mapSeq (fun _ => (#[] : Array Value)))).get? b = some o :=
    fun b o hb e => (Heap.get?_update_other _ _ (Ne.symm hb)).trans e
  refine wpAny_bind (wpAny_letGo ?_)
  refine rev_extend (A := A.in1) (items := items) hh (hit.at fun o e => oth r o (Ne.symm nr) (Heap.get?_push_of_some _ e)) (hl.at fun o e => oth l o (Ne.symm nl) (Heap.get?_push_of_some _ e)) hrl _ nr nl .none _ hS₂ (fun h' tk acc' c' hk hS' hacc => ?_) hn
  exact ⟨rfl, hQ h' tk acc' c' (fun b o hb e => hk b o (Nat.ne_of_lt (Heap.lt_size e)) hb (oth b o (Nat.ne_of_lt (Heap.lt_size e)) (Heap.get?_push_of_some _ e))) hS' hacc⟩
end
theorem rev_vals {zs : List V} {its : List Value} {acc : Array Value} (r : Vals zs its) (h : ItemsOf (fun i v => its.toArray[its.toArray.size - 1 - i]? = some v) acc its.toArray.size) : acc.toList = its.reverse := by
  obtain ⟨h1, h2⟩ := h
  have h1 : acc.size = its.length := by simpa using h1
  apply List.ext_getElem?
  intro j
  by_cases hj : j < its.length
  · have hj' : j < acc.size := by omega
    have e : acc[j]? = some acc[j] := Array.getElem?_eq_getElem hj'
    have q := h2 j _ e
    rw [List.size_toArray] at q
    have q : its[its.length - 1 - j]? = some acc[j] := by simpa using q
    rw [List.getElem?_reverse hj, q, Array.getElem?_toList, e]
  · rw [List.getElem?_eq_none (by simp; omega), List.getElem?_eq_none (by simp; omega)]
theorem Vals.rev {xs : List V} {us : List Value} (h : Vals xs us) : Vals xs.reverse us.reverse := by
  induction h with
  | nil => exact .nil
  | cons r t ih =>
    rw [List.reverse_cons, List.reverse_cons]
    exact ih.append (.cons r .nil)
theorem boot_rev : bootBuiltins "reversed" = some (.type "reversed") := by decide +kernel
theorem boot_lst : bootBuiltins "list" = some (.type "list") := by decide +kernel
/-- list(reversed(e)) -/
theorem pe_listRev {X : Cx} {e : Expr} {te : TE} {p1 p2 pos1 pos2 : Pos} (hc : X.calm = true) (hg1 : Gl X "list") (hm1 : X.mg "list" = none) (hg2 : Gl X "reversed") (hm2 : X.mg "reversed" = none) (he : PE X e te) (hs : starEach [e] X.env = [(false, eval e X.env)] := by rfl)
    (hs2 : starEach [.Call (.Name "reversed" p2) [e] [] pos2] X.env = [(false, eval (.Call (.Name "reversed" p2) [e] [] pos2) X.env)] := by rfl) :
    PE X (.Call (.Name "list" p1) [.Call (.Name "reversed" p2) [e] [] pos2] [] pos1) (fun σ H Q => te σ H fun x H1 => ∃ a xs, x = .ref a ∧ SqL X.K H1 a xs ∧ ∀ d, H1 d = none → Q (.ref d) (upd H1 d (.lst xs.reverse))) := by
  intro pins s σ H Q I h
  refine Call_ (ld_blt I hg1 hm1 boot_lst (PyProof.Rows.callWith_type1 (e := .Call (.Name "reversed" p2) [e] [] pos2) (rest := []) ?_ hs2 rfl))
  rw [hs2]
  show wpAny _ _ (spliced ((false, eval (.Call (.Name "reversed" p2) [e] [] pos2) X.env) :: [])) _ _ s
  refine Calls.spliced_cons (Call_ (ld_blt I hg2 hm2 boot_rev (PyProof.Rows.callWith_type1 (e := e) (rest := []) ?_ hs rfl)))
  rw [hs]
  show wpAny _ _ (spliced ((false, eval e X.env) :: [])) _ _ s
  refine Calls.spliced_cons (thn (he pins s σ H _ I h) fun u s1 ⟨x, H1, I1, r1, a, xs, ex, hx, q⟩ => ?_)
  subst ex
  cases r1
  obtain ⟨its, rv, pl, hz⟩ := I1.list hx
  have hlen := rv.length
  refine Calls.spliced_nil (call_reversed_list pl.isList ?_)
  refine Calls.spliced_nil ?_
  have I2 : Inv X pins σ H1 { s1 with heap := s1.heap.push (revObj a ((its.toArray.size : Int) - 1)) } := I1.kept (t' := s1.toks) fun b o e => Heap.get?_push_of_some _ e
  have hlt : a < s1.heap.objs.size := by obtain ⟨o, e, _⟩ := pl.isList; exact Heap.lt_size e
  refine rev_call (items := its.toArray) (I.ok.hd hc) ⟨_, Heap.get?_push_size _ rfl, rfl, rfl⟩ (pl.isList.push _) (Nat.ne_of_lt hlt) (by rw [List.size_toArray]; omega) fun h' tk acc' c' hk hS hacc => ?_
  have fr : FpOk X pins H1 s1.heap.objs.size := I1.fpOk (Nat.le_refl _) I1.fresh
  have I3 : Inv X pins σ H1 { s1 with heap := h', toks := tk } := Inv.turnedN (s := { s1 with heap := s1.heap.push (revObj a ((its.toArray.size : Int) - 1)) }) (h' := h') (t' := tk) (ch := [s1.heap.objs.size]) I2 (fun b o hb e => hk b o (fun z => hb (by simp [z])) e) (fun b hb => by
    have e : b = s1.heap.objs.size := by simpa using hb
    rw [e]
    exact fr)
  have fr2 : FpOk X pins H1 (s1.heap.push (revObj a ((its.toArray.size : Int) - 1))).objs.size := I2.fpOk (Nat.le_refl _) I2.fresh
  obtain ⟨f0, f1, f2, f3, f4, f5⟩ := fr2
  refine ⟨.ref _, _, I3.track (o := .lst xs.reverse) f0 ?_ f1 f4 f5 ⟨by rw [List.length_reverse]; exact hz, its.reverse, c', rv.rev, ?_⟩, rfl, q _ f0⟩
  · cases q : X.s₀.heap.get? (s1.heap.push (revObj a ((its.toArray.size : Int) - 1))).objs.size with
    | none => rfl
    | some o => exact absurd (Nat.lt_of_lt_of_le (Heap.lt_size q) I2.sz) (Nat.lt_irrefl _)
  · rw [← rev_vals rv hacc]
    rw [Array.toArray_toList]
    exact hS
end L2
-- at 6df87be
namespace K05
open PySem L2 XM

/-! the text by places -/
def top (i : Nat) : Stmt := PySem.Challenge.pw_bridgecrews_k05_partings.main.body.getD i (.Pass ⟨0, 0, 0, 0⟩)
abbrev sCalledQ : Stmt := inClass (top 4) 0
abbrev sCalledP : Stmt := inClass (top 5) 0
abbrev sIsq : Stmt := top 9
abbrev sJoin : Stmt := top 10
abbrev sRises : Stmt := top 11
abbrev sRisesB : Stmt := top 12
abbrev sOnce : Stmt := top 14
abbrev sGroups : Stmt := top 15
abbrev sCheck : Stmt := top 16
abbrev sCheckQ : Stmt := top 17
abbrev sIsPart : Stmt := top 19
abbrev sPlaces : Stmt := top 20
abbrev sBetween : Stmt := top 21
abbrev sWithin : Stmt := top 22
abbrev sInit : Stmt := inClass (top 24) 0
abbrev sAt : Stmt := top 26
abbrev sTown : Stmt := top 27
abbrev sSpoiled : Stmt := top 28
abbrev sRising : Stmt := top 29
abbrev sParting : Stmt := top 30
abbrev sChanged : Stmt := top 31
abbrev sLPart : Stmt := top 32
abbrev sCaught : Stmt := top 33
abbrev sRefused : Stmt := top 34
abbrev sOne : Stmt := top 35
abbrev sSame : Stmt := top 36
abbrev sLaw : Stmt := top 37
abbrev sTogether : Stmt := top 13

/-! the data -/
def P2 (H : Hp) (x : V) (p : Int × Int) : Prop := ∃ a, x = .ref a ∧ H a = some (.tup [.int p.1, .int p.2])
abbrev PV (H : Hp) : List V → PP → Prop := All2 (P2 H)
theorem PV.mono {H H' : Hp} {xs : List V} {ps : PP} (s : ∀ b ys, H b = some (.tup ys) → H' b = some (.tup ys)) (h : PV H xs ps) : PV H' xs ps :=
  All2.imp (fun _ _ ⟨a, e, q⟩ => ⟨a, e, s a _ q⟩) h
theorem PV.same {H H' : Hp} {xs : List V} {ps : PP} (s : Same H H') (h : PV H xs ps) : PV H' xs ps := h.mono fun b ys e => s b _ e
/-- a list of ints -/
abbrev LI (H : Hp) (l : Addr) (ns : List Int) : Prop := H l = some (.lst (ns.map V.int))
/-- a list of lists of ints -/
def L1 (H : Hp) (x : V) (ns : List Int) : Prop := ∃ a, x = .ref a ∧ LI H a ns
abbrev LS (H : Hp) : List V → List (List Int) → Prop := All2 (L1 H)
theorem LS.same {H H' : Hp} {xs : List V} {nss : List (List Int)} (s : Same H H') (h : LS H xs nss) : LS H' xs nss := All2.imp (fun _ _ ⟨a, e, q⟩ => ⟨a, e, s a _ q⟩) h

/-! what the walk asks of the text -/
structure Txt (K : PySem.W.Frag) (mg : Str → Option Value) (CE CS CQ CP CT : Addr) : Prop where
  mgCE : mg "CrewError" = some (.ref CE)
  mgBS : mg "BadSome" = some (.ref CS)
  mgBQ : mg "BadQuarters" = some (.ref CQ)
  mgBP : mg "BadParting" = some (.ref CP)
  mgT : mg "Town" = some (.ref CT)
  errQ : Err K CQ "ValueError" "ValueError.__new__" "ValueError.__init__" [.type "ValueError", .type "Exception", .type "BaseException", .type "object"]
  errP : Err K CP "ValueError" "ValueError.__new__" "ValueError.__init__" [.type "ValueError", .type "Exception", .type "BaseException", .type "object"]
  askQ : ErrA K CQ
  askP : ErrA K CP
  nmE : Named K CE
  subQ : PySem.W.mroIn K CQ (.ref CE) = some true
  subP : PySem.W.mroIn K CP (.ref CE) = some true
  qE : PySem.W.kitOne K (.ref CQ) (.ref CE) = some true
  pE : PySem.W.kitOne K (.ref CP) (.ref CE) = some true
  qV : PySem.W.kitOne K (.ref CQ) (.type "ValueError") = some true
  pV : PySem.W.kitOne K (.ref CP) (.type "ValueError") = some true
  qS : PySem.W.kitOne K (.ref CQ) (.ref CS) = some false
  pS : PySem.W.kitOne K (.ref CP) (.ref CS) = some false
  qP : PySem.W.kitOne K (.ref CQ) (.ref CP) = some false
  pQ : PySem.W.kitOne K (.ref CP) (.ref CQ) = some false
  cl : Cls K CT
  nq : NoAttr K CT "quarters"
  nb : NoAttr K CT "bridges"
  mq : ∃ t, mg "MOST_QUARTERS" = some (.int 24 t)
  mb : ∃ t, mg "MOST_BRIDGES" = some (.int 60 t)
  len : mg "len" = none
  list : mg "list" = none
  range : mg "range" = none
  isi : mg "isinstance" = none
  int : mg "int" = none
  bool : mg "bool" = none
  verr : mg "ValueError" = none
  all : mg "all" = none
  zip : mg "zip" = none
  enum : mg "enumerate" = none
  set : mg "set" = none
  sum : mg "sum" = none
  sorted : mg "sorted" = none
  max : mg "max" = none
  reversed : mg "reversed" = none

section
variable {P : Program} {w : World} {K : PySem.W.Frag} {mg : Str → Option Value} {base : Heap} {CE CS CQ CP CT : Addr}
theorem boot_all : bootBuiltins "all" = some (.builtin "all") := by decide +kernel
theorem boot_sum : bootBuiltins "sum" = some (.builtin "sum") := by decide +kernel
theorem boot_set : bootBuiltins "set" = some (.type "set") := by decide +kernel
theorem boot_sorted : bootBuiltins "sorted" = some (.builtin "sorted") := by decide +kernel
theorem boot_max : bootBuiltins "max" = some (.builtin "max") := by decide +kernel
theorem boot_isi : bootBuiltins "isinstance" = some (.builtin "isinstance") := by decide +kernel
theorem bt_int : bootBuiltins "int" = some (.type "int") := by decide +kernel
theorem bt_bool : bootBuiltins "bool" = some (.type "bool") := by decide +kernel
theorem bt_list : bootBuiltins "list" = some (.type "list") := by decide +kernel
theorem boot_verr : bootBuiltins "ValueError" = some (.type "ValueError") := by decide +kernel

theorem take_snoc {α β : Type} {xs : List α} {f : α → β} {i : Nat} {x : α} (h : xs[i]? = some x) : (xs.take (i + 1)).map f = (xs.take i).map f ++ [f x] := by
  rw [List.take_add_one, h, List.map_append]
  rfl
theorem take_snoc' {α : Type} {xs : List α} {i : Nat} {x : α} (h : xs[i]? = some x) : xs.take (i + 1) = xs.take i ++ [x] := by
  rw [List.take_add_one, h]
  rfl

/-! rises -/
def rising (ns : List Int) : Bool := (ns.zip ns.tail).all fun p => decide (p.1 < p.2)
def spRises : Sp := fun vs H Q _ => ∃ (l : Addr) (ns : List Int), vs = [.ref l] ∧ LI H l ns ∧ ns.length ≤ 1000 ∧ ∀ H', Same H H' → Q (.bl (rising ns)) H'
theorem scRises : FnScope ["numbers"] ["numbers"] (defScope sRises) := ⟨rfl, rfl, rfl, by decide +kernel, rfl, by decide +kernel, by decide +kernel⟩
theorem cut1 (ns : List Int) : cutV (ns.map V.int) (some 1) none = ns.tail.map V.int := by
  unfold cutV
  have e1 : HT.sIx (ns.map V.int).length 0 (some 1) = min 1 ns.length := by
    rw [show (some (1 : Int)) = some ((1 : Nat) : Int) from rfl, HT.sIx_nat, List.length_map]
  rw [e1]
  cases ns with
  | nil => rfl
  | cons n r =>
    have : min 1 (n :: r).length = 1 := by simp
    rw [this]
    simp [HT.sIx]
    rw [← List.length_map (f := V.int), List.take_length]
theorem ok_rises {f : Addr} {fd : FuncData} (T : Txt K mg CE CS CQ CP CT) (F : Fun K "rises" "rises" sRises f fd) : FnOk P w K mg base CX0 1 f fd ["numbers"] spRises := by
  refine F.ok scRises (fun vs H Q E h => ?_) (fun cdv A outer s H vs Q E hr h => ?_)
  · obtain ⟨l, ns, rfl, _⟩ := h
    rfl
  · obtain ⟨l, ns, rfl, hl, hn, kQ⟩ := h
    have nd2 : (((["one", "other"] : List Str)) ++ []).Nodup := by decide +kernel
    refine ⟨_, pss_one (ps_ret (pe_callB (call_allB rfl) (by rfl) T.all boot_all (pa_cons (pe_comp (own := ["one", "other"]) (caps := []) (cs := []) (sc := defScope sRises) ⟨rfl, rfl, by decide +kernel, by decide +kernel, by decide +kernel, by decide +kernel, rfl⟩ rfl
      (pi_zip (by rfl) T.zip (pa_cons (pv 0) (pa_cons (pe_slice sl_list (pv 0) (po_some pe_int) po_none) pa_nil)))
      (fun _ _ _ _ _ => pg_tup (n := 2) rfl (pgs_cons (pg_name (i := 0) nd2 rfl (Or.inl rfl) (.inr rfl)) (pgs_cons (pg_name (i := 1) nd2 rfl (Or.inl rfl) (.inr rfl)) pgs_nil)))
      (fun _ _ _ _ _ => pf_nil) (fun _ _ _ _ _ => pe_cmpR op_lt (pv 0) (pv 1) (nomark _))) pa_nil))), ?_⟩
    refine ⟨_, rfl, _, rfl, 1, rfl, l, _, rfl, SqL.of hl, fun l2 hl2 => ?_⟩
    rw [cut1]
    have s1 : Same H (upd H l2 (.lst (ns.tail.map V.int))) := Same.rfl'.new hl2
    refine ⟨l, l2, _, _, rfl, SqL.of (s1 _ _ hl), SqL.of upd_same, fun D hD => comp_ext (n := (ns.zip ns.tail).length) hD (fun i => ((ns.zip ns.tail).take i).map fun p => V.bl (decide (p.1 < p.2))) rfl (fun i hi => ?_) (fun i H2 hi sm hD2 => ?_) (fun H2 sm hD2 => ?_)⟩
    · rw [List.length_map, List.length_take]
      have : i < 1000 := by rw [List.length_zip] at hi; omega
      exact small1000 (by omega)
    · have q1 : LI H2 l ns := sm _ _ (s1 _ _ hl)
      have q2 : LI H2 l2 ns.tail := sm _ _ upd_same
      have hi1 : i < ns.length := by rw [List.length_zip] at hi; omega
      have hi2 : i < ns.tail.length := by rw [List.length_zip] at hi; omega
      have e1 : (ns.map V.int)[i]? = some (.int ns[i]) := by rw [List.getElem?_map, List.getElem?_eq_getElem hi1]; rfl
      have e2 : (ns.tail.map V.int)[i]? = some (.int ns.tail[i]) := by rw [List.getElem?_map, List.getElem?_eq_getElem hi2]; rfl
      refine ⟨⟨_, _, _, _, SqL.of q1, SqL.of q2, e1, e2⟩, fun K1 K2 k1 k2 x H' y => ?_⟩
      obtain ⟨t, rfl, ht, e⟩ := y
      rw [e _ _ _ _ (SqL.of q1) (SqL.of q2) e1 e2]
      refine ⟨t, _, rfl, SqT.of upd_same, rfl, _, _, rfl, _, _, rfl, rfl, rfl, noIf (A := fun _ H3 => tOp _ _ _ _ H3 K1) (B := fun _ H3 => K2 H3) ⟨_, rfl, _, rfl, _, _, rfl, rfl, k1 _ _ (Same.rfl'.new ht) ?_⟩⟩
      rw [take_snoc (x := (ns[i], ns.tail[i])) (by rw [List.getElem?_zip_eq_some]; exact ⟨List.getElem?_eq_getElem hi1, List.getElem?_eq_getElem hi2⟩)]
    · have q1 : LI H2 l ns := sm _ _ (s1 _ _ hl)
      have q2 : LI H2 l2 ns.tail := sm _ _ upd_same
      refine ⟨⟨_, _, SqL.of q1, SqL.of q2, ?_⟩, D, (ns.zip ns.tail).map fun p => decide (p.1 < p.2), rfl, SqL.of ?_, ?_⟩
      · rw [List.length_map, List.length_map, List.length_zip]
        omega
      · rw [hD2, List.take_length, List.map_map]
        rfl
      · have e : ((ns.zip ns.tail).map fun p => decide (p.1 < p.2)).all id = rising ns := by
          unfold rising
          rw [List.all_map]
          rfl
        rw [e]
        exact kQ H2 (s1.tr sm)
end
end K05
namespace K05
open PySem L2 XM
section
variable {P : Program} {w : World} {K : PySem.W.Frag} {mg : Str → Option Value} {base : Heap} {CE CS CQ CP CT : Addr}

/-! rises_below -/
def inR (c n : Int) : Bool := decide (0 ≤ n) && decide (n < c)
def risesB (ns : List Int) (c : Int) : Bool := rising ns && ns.all (inR c)
def spRisesB : Sp := fun vs H Q _ => ∃ (l : Addr) (ns : List Int) (c : Int), vs = [.ref l, .int c] ∧ LI H l ns ∧ ns.length ≤ 1000 ∧ ∀ H', Same H H' → Q (.bl (risesB ns c)) H'
theorem scRisesB : FnScope ["numbers", "count"] ["numbers", "count"] (defScope sRisesB) := ⟨rfl, rfl, rfl, by decide +kernel, rfl, by decide +kernel, by decide +kernel⟩
theorem ok_risesB {f f1 : Addr} {fd fd1 : FuncData} (T : Txt K mg CE CS CQ CP CT) (F : Fun K "rises_below" "rises_below" sRisesB f fd) (G1 : FnOk P w K mg base CX0 1 f1 fd1 ["numbers"] spRises) (b1 : Binds K fd1 ["numbers"] []) (m1 : mg "rises" = some (.ref f1)) (k1 : PySem.W.keepIn K (.ref f1) = true) :
    FnOk P w K mg base CX0 2 f fd ["numbers", "count"] spRisesB := by
  refine F.ok scRisesB (fun vs H Q E h => ?_) (fun cdv A outer s H vs Q E hr h => ?_)
  · obtain ⟨l, ns, c, rfl, _⟩ := h
    rfl
  · obtain ⟨l, ns, c, rfl, hl, hn, kQ⟩ := h
    have nd2 : ((["number"] : List Str) ++ (["count"] : List Str)).Nodup := by decide +kernel
    refine ⟨_, pss_one (ps_ret (pe_and (pe_call G1 hr rfl m1 k1 b1 .nil pass0 (pa_cons (pv 0) pa_nil)) (pe_one (pe_callB (call_allB rfl) (by rfl) T.all boot_all (pa_cons
      (pe_comp (own := ["number"]) (caps := ["count"]) (cs := [1]) (sc := defScope sRisesB) ⟨rfl, rfl, by decide +kernel, by decide +kernel, by decide +kernel, by decide +kernel, rfl⟩ rfl
      (pi_list (pv 0)) (fun _ _ _ _ _ => pg_name (i := 0) nd2 rfl (Or.inl rfl) (.inr rfl)) (fun _ _ _ _ _ => pf_nil) (fun _ _ _ _ _ => pe_chain op_le op_lt pe_int (pv 0) (pv 1))) pa_nil))))), ?_⟩
    refine ⟨_, rfl, l, ns, rfl, hl, hn, fun H1 s1 => ?_⟩
    refine ⟨_, rfl, ?_⟩
    have e0 : risesB ns c = (rising ns && ns.all (inR c)) := rfl
    cases hr : rising ns with
    | false =>
      refine iteF ?_
      have := kQ H1 s1
      rw [e0, hr] at this
      exact this
    | true =>
      have q1 : LI H1 l ns := s1 _ _ hl
      refine iteT ⟨_, rfl, l, rfl, ⟨_, SqL.of q1⟩, fun D hD => comp_ext0 (n := ns.length) hD (fun i => (ns.take i).map fun n => V.bl (inR c n)) rfl (fun i hi => ?_) (fun i H2 hi sm hD2 => ?_) (fun H2 sm hD2 => ?_)⟩
      · rw [List.length_map, List.length_take]
        exact small1000 (by omega)
      · have q2 : LI H2 l ns := sm _ _ q1
        have e1 : (ns.map V.int)[i]? = some (.int ns[i]) := by rw [List.getElem?_map, List.getElem?_eq_getElem hi]; rfl
        refine ⟨⟨_, _, SqL.of q2, e1⟩, fun K1 k1 x H' y => ?_⟩
        obtain ⟨rfl, e⟩ := y
        have ex := e _ (SqL.of q2)
        rw [e1] at ex
        cases ex
        refine ⟨rfl, ⟨_, rfl, _, _, rfl, rfl, _, rfl, ?_⟩⟩
        have fin : ∀ b, b = inR c ns[i] → K1 (.bl b) H' := fun b eb => k1 _ _ Same.rfl' (by rw [take_snoc (List.getElem?_eq_getElem hi), eb])
        by_cases h0 : 0 ≤ ns[i]
        · rw [decide_eq_true h0]
          refine iteT ⟨_, rfl, _, _, rfl, rfl, fin _ ?_⟩
          unfold inR
          rw [decide_eq_true h0]
          rfl
        · rw [decide_eq_false h0]
          refine iteF (fin _ ?_)
          unfold inR
          rw [decide_eq_false h0]
          rfl
      · have q2 : LI H2 l ns := sm _ _ q1
        refine ⟨⟨_, SqL.of q2, by rw [List.length_map]; exact Nat.le_refl _⟩, D, ns.map (inR c), rfl, SqL.of ?_, ?_⟩
        · rw [hD2, List.take_length, List.map_map]
          rfl
        · have := kQ H2 (s1.tr sm)
          rw [e0, hr, Bool.true_and] at this
          rw [List.all_map]
          exact this

theorem dec_nat {a b : Nat} : decide (V.int (a : Int) = V.int (b : Int)) = decide (a = b) := decide_eq_decide.mpr ⟨fun e => by cases e; omega, fun e => by rw [e]⟩
theorem dec_int {a b : Int} : decide (V.int a = V.int b) = decide (a = b) := decide_eq_decide.mpr ⟨fun e => by cases e; rfl, fun e => by rw [e]⟩

/-! each_once -/
def once (nss : List (List Int)) : Bool := decide ((distinct nss.flatten).length = nss.flatten.length)
def spOnce : Sp := fun vs H Q _ => ∃ (l : Addr) (xs : List V) (nss : List (List Int)), vs = [.ref l] ∧ H l = some (.lst xs) ∧ LS H xs nss ∧ nss.flatten.length ≤ 1000 ∧ ∀ H', Same H H' → Q (.bl (once nss)) H'
theorem scOnce : FnScope ["lists", "met"] ["lists"] (defScope sOnce) := ⟨rfl, rfl, rfl, by decide +kernel, rfl, by decide +kernel, by decide +kernel⟩
def spTogether : Sp := fun vs H Q _ => ∃ (l : Addr) (xs : List V) (nss : List (List Int)), vs = [.ref l] ∧ H l = some (.lst xs) ∧ LS H xs nss ∧ nss.flatten.length ≤ 1000 ∧ ∀ (H' : Hp) (m : Addr), Same H H' → H m = none → LI H' m nss.flatten → Q (.ref m) H'
theorem scTogether : FnScope ["lists", "together", "numbers"] ["lists"] (defScope sTogether) := ⟨rfl, rfl, rfl, by decide +kernel, rfl, by decide +kernel, by decide +kernel⟩
theorem flat_take {nss : List (List Int)} {i : Nat} {ns : List Int} (h : nss[i]? = some ns) : (nss.take (i + 1)).flatten = (nss.take i).flatten ++ ns := by
  rw [take_snoc' h, List.flatten_append]
  simp
theorem flat_take_le (nss : List (List Int)) (i : Nat) : (nss.take i).flatten.length ≤ nss.flatten.length := by
  have e : nss.flatten = (nss.take i).flatten ++ (nss.drop i).flatten := by rw [← List.flatten_append, List.take_append_drop]
  rw [e, List.length_append]
  omega
theorem ok_together {f : Addr} {fd : FuncData} (T : Txt K mg CE CS CQ CP CT) (F : Fun K "put_together" "put_together" sTogether f fd) : FnOk P w K mg base CX0 1 f fd ["lists"] spTogether := by
  refine F.ok scTogether (fun vs H Q E h => ?_) (fun cdv A outer s H vs Q E hr h => ?_)
  · obtain ⟨l, xs, nss, rfl, _⟩ := h
    rfl
  · obtain ⟨l, xs, nss, rfl, hl, hx, hn, kQ⟩ := h
    refine ⟨_, pss_cons (ps_set (i := 1) scTogether.nd rfl (Or.inl rfl) (pe_lst pa_nil))
      (pss_cons (ps_for PassesOwn.never rfl (pi_list (pv 0)) (pg_name (i := 2) scTogether.nd rfl (Or.inl rfl))
        (pss_one (ps_expr (pe_bm PySem.F.plainAttrs_list PySem.F.slot_list_extend PySem.F.type_list_extend mt_extend (pv 1) (pa_cons (pv 2) pa_nil)))))
      (pss_one (ps_ret (pv 1)))), ?_⟩
    have hlen := hx.length
    refine ⟨by show 0 ≤ sizeLine; decide, fun m hm => ?_⟩
    have s0 : Same H (upd H m (.lst [])) := Same.rfl'.new hm
    refine ⟨_, rfl, l, rfl, ⟨_, SqL.of (s0 _ _ hl)⟩, for_list (K := K) (a := l) (xs := xs) (fun i σ H2 => Same H H2 ∧ LI H2 m ((nss.take i).flatten) ∧ ∃ u, σ = [some (.ref l), some (.ref m), u])
      ⟨s0, upd_same, _, rfl⟩ (fun i σ H2 _ ⟨e, _⟩ => SqL.of (e _ _ hl)) ?_ ?_⟩
    · rintro i x σ H2 hi ⟨s2, hm2, u, rfl⟩
      obtain ⟨ns, hns, a, rfl, ha⟩ := hx.get hi
      have ha2 : LI H2 a ns := s2 _ _ ha
      refine ⟨_, rfl, .inl ⟨rfl, _, SqL.of hm2⟩, _, rfl, m, a, _, _, rfl, rfl, hm2, ha2, ?_, ?_⟩
      · rw [List.length_map, List.length_map]
        have h1 := flat_take_le nss (i + 1)
        rw [flat_take hns, List.length_append] at h1
        exact Nat.le_of_lt (small1000 (by omega))
      · refine ⟨fun b o e => ?_, ?_, _, rfl⟩
        · rw [upd_ne (ne_of_none e hm)]
          exact s2 _ _ e
        · rw [LI, upd_same, flat_take hns, List.map_append]
    · rintro σ H2 ⟨s2, hm2, u, rfl⟩
      rw [hlen, List.take_length] at hm2
      exact ⟨_, rfl, kQ H2 m s2 hm hm2⟩
theorem ok_once {f f1 : Addr} {fd fd1 : FuncData} (T : Txt K mg CE CS CQ CP CT) (F : Fun K "each_once" "each_once" sOnce f fd) (G1 : FnOk P w K mg base CX0 1 f1 fd1 ["lists"] spTogether) (b1 : Binds K fd1 ["lists"] []) (m1 : mg "put_together" = some (.ref f1)) (k1 : PySem.W.keepIn K (.ref f1) = true) :
    FnOk P w K mg base CX0 2 f fd ["lists"] spOnce := by
  refine F.ok scOnce (fun vs H Q E h => ?_) (fun cdv A outer s H vs Q E hr h => ?_)
  · obtain ⟨l, xs, nss, rfl, _⟩ := h
    rfl
  · obtain ⟨l, xs, nss, rfl, hl, hx, hn, kQ⟩ := h
    refine ⟨_, pss_cons (ps_set (i := 1) scOnce.nd rfl (Or.inl rfl) (pe_call G1 hr (by rfl) m1 k1 b1 .nil pass0 (pa_cons (pv 0) pa_nil)))
      (pss_one (ps_ret (pe_cmpR op_eq (pe_callB call_lenSet (by rfl) T.len PySem.boot_len (pa_cons (pe_callTy (call_setI rfl) (by rfl) T.set boot_set (pa_cons (pv 1) pa_nil)) pa_nil))
        (pe_callB call_len_seq (by rfl) T.len PySem.boot_len (pa_cons (pv 1) pa_nil)) (nomark _)))), ?_⟩
    refine ⟨_, rfl, l, xs, nss, rfl, hl, hx, hn, fun H2 m s2 _ hm2 => ?_⟩
    refine ⟨_, rfl, m, nss.flatten, rfl, SqL.of hm2, ?_, fun d hd => ?_⟩
    · show nss.flatten.length + 1 < 4096
      omega
    · have s3 : Same H2 (upd H2 d (.set (fun k => (distinct nss.flatten).any (· == k)) (distinct nss.flatten).length)) := Same.rfl'.new hd
      have hle : (distinct nss.flatten).length ≤ nss.flatten.length := PyProof.Rows.firstMet_length_le _ _
      refine ⟨d, _, _, rfl, upd_same, by omega, _, rfl, m, _, rfl, .inl (SqL.of (s3 _ _ hm2)), rfl, ?_⟩
      have := kQ _ (s2.tr s3)
      unfold once at this
      have e : decide (V.int ((distinct nss.flatten).length : Int) = V.int ((nss.flatten.map V.int).length : Int)) = decide ((distinct nss.flatten).length = nss.flatten.length) := by
        rw [List.length_map]
        exact dec_nat
      rw [e]
      exact this
end
end K05
namespace L2
open PySem PySem.Spec PyProof.Rows
/-- for over enumerate of a list that the body leaves as it is -/
theorem for_enum {K : PySem.W.Frag} {a : Addr} {xs : List V} {g : TG} {tb : TS} {D : Ends} {σ : St} {H : Hp} (Pv : Nat → St → Hp → Prop) (h0 : Pv 0 σ H) (hl : ∀ i σ H, i ≤ xs.length → Pv i σ H → SqL K H a xs)
    (hs : ∀ i x σ H t, xs[i]? = some x → Pv i σ H → H t = none → g (.ref t) σ (upd H t (.tup [.int i, x])) fun σ2 H2 => tb { D with nx := Pv (i + 1), ct := Pv (i + 1), bk := D.nx } σ2 H2) (hd : ∀ σ H, Pv xs.length σ H → D.nx σ H) :
    ∃ W : Nat → Nat → St → Hp → Prop, (∃ m, W 0 m σ H) ∧ ∀ i m σ H, W i m σ H →
      ((Ite K a).stop i H ∧ D.nx σ H) ∨ ((Ite K a).go i H ∧ ∃ N : St → Hp → Prop, (∀ σ' H', N σ' H' → ∃ m', m' < m ∧ W (i + 1) m' σ' H') ∧ ∀ x H', (Ite K a).yld i H x H' → g x σ H' fun σ2 H2 => tb { D with nx := N, ct := N, bk := D.nx } σ2 H2) := by
  refine ⟨fun i m σ H => m = xs.length - i ∧ i ≤ xs.length ∧ Pv i σ H, ⟨xs.length, by simp, Nat.zero_le _, h0⟩, ?_⟩
  rintro i m σ H ⟨rfl, hi, p⟩
  have q := hl i σ H hi p
  by_cases hlt : i < xs.length
  · refine .inr ⟨⟨xs, xs[i], q, by simp [hlt]⟩, Pv (i + 1), fun σ' H' p' => ⟨xs.length - (i + 1), by omega, rfl, hlt, p'⟩, fun x H' y => ?_⟩
    obtain ⟨t, rfl, ht, y⟩ := y
    rw [y xs xs[i] q (by simp [hlt])]
    exact hs i xs[i] σ H t (by simp [hlt]) p ht
  · have e : i = xs.length := by omega
    subst e
    exact .inl ⟨⟨xs, q, Nat.le_refl _⟩, hd σ H p⟩
end L2
namespace K05
open PySem L2 XM
section
variable {P : Program} {w : World} {K : PySem.W.Frag} {mg : Str → Option Value} {base : Heap} {CE CS CQ CP CT : Addr}

/-! are_groups -/
def grpOk (q f : Int) (g : List Int) : Bool := !decide ((g.length : Int) < f) && risesB g q
def groupsOk (nss : List (List Int)) (q f : Int) : Bool := nss.all (grpOk q f) && (once nss && rising (nss.map (·.headD 0)))
def spGroups : Sp := fun vs H Q _ => ∃ (l : Addr) (xs : List V) (nss : List (List Int)) (q f : Int), vs = [.ref l, .int q, .int f] ∧ H l = some (.lst xs) ∧ LS H xs nss ∧ 1 ≤ f ∧ nss.flatten.length ≤ 1000 ∧ nss.length ≤ 1000 ∧ ∀ H', Same H H' → Q (.bl (groupsOk nss q f)) H'
theorem scGroups : FnScope ["groups", "quarters", "fewest", "group"] ["groups", "quarters", "fewest"] (defScope sGroups) := ⟨rfl, rfl, rfl, by decide +kernel, rfl, by decide +kernel, by decide +kernel⟩
theorem all_no {α : Type} {l : List α} {p : α → Bool} {i : Nat} {x : α} (h : l[i]? = some x) (hp : p x = false) : l.all p = false := by
  refine Bool.eq_false_iff.mpr fun z => ?_
  rw [List.all_eq_true.mp z x (List.mem_of_getElem? h)] at hp
  cases hp
theorem len_le_flat {nss : List (List Int)} {i : Nat} {ns : List Int} (h : nss[i]? = some ns) : ns.length ≤ nss.flatten.length := by
  have := flat_take_le nss (i + 1)
  rw [flat_take h, List.length_append] at this
  omega
theorem ok_groups {f f1 f2 f3 : Addr} {fd fd1 fd2 fd3 : FuncData} (T : Txt K mg CE CS CQ CP CT) (F : Fun K "are_groups" "are_groups" sGroups f fd)
    (G1 : FnOk P w K mg base CX0 2 f1 fd1 ["numbers", "count"] spRisesB) (b1 : Binds K fd1 ["numbers", "count"] []) (m1 : mg "rises_below" = some (.ref f1)) (k1 : PySem.W.keepIn K (.ref f1) = true)
    (G2 : FnOk P w K mg base CX0 2 f2 fd2 ["lists"] spOnce) (b2 : Binds K fd2 ["lists"] []) (m2 : mg "each_once" = some (.ref f2)) (k2 : PySem.W.keepIn K (.ref f2) = true)
    (G3 : FnOk P w K mg base CX0 1 f3 fd3 ["numbers"] spRises) (b3 : Binds K fd3 ["numbers"] []) (m3 : mg "rises" = some (.ref f3)) (k3 : PySem.W.keepIn K (.ref f3) = true) :
    FnOk P w K mg base CX0 3 f fd ["groups", "quarters", "fewest"] spGroups := by
  refine F.ok scGroups (fun vs H Q E h => ?_) (fun cdv A outer s H vs Q E hr h => ?_)
  · obtain ⟨l, xs, nss, q, f, rfl, _⟩ := h
    rfl
  · obtain ⟨l, xs, nss, q, f, rfl, hl, hx, hf, hn, hn2, kQ⟩ := h
    have nd2 : ((["group"] : List Str) ++ ([] : List Str)).Nodup := by decide +kernel
    have hr1 := hr.mono (show 1 ≤ 2 by omega)
    refine ⟨_, pss_cons (ps_for PassesOwn.never rfl (pi_list (pv 0)) (pg_name (i := 3) scGroups.nd rfl (Or.inl rfl))
        (pss_one (ps_if (pw_or (pt_cmpR op_lt (pe_callB call_len_seq (by rfl) T.len PySem.boot_len (pa_cons (pv 3) pa_nil)) (pv 2) (nomark _))
          (pw_or1 (pt_not (pt_val (pe_call G1 hr (by rfl) m1 k1 b1 .nil pass0 (pa_cons (pv 3) (pa_cons (pv 1) pa_nil))))))).pt (pss_one (ps_ret pe_bl)) pss_nil)))
      (pss_one (ps_ret (pe_and (pe_call G2 hr (by rfl) m2 k2 b2 .nil pass0 (pa_cons (pv 0) pa_nil)) (pe_one (pe_call G3 hr1 (by rfl) m3 k3 b3 .nil pass0 (pa_cons
        (pe_comp (own := ["group"]) (caps := []) (cs := []) (sc := defScope sGroups) ⟨rfl, rfl, by decide +kernel, by decide +kernel, by decide +kernel, by decide +kernel, rfl⟩ rfl
        (pi_list (pv 0)) (fun _ _ _ _ _ => pg_name (i := 0) nd2 rfl (Or.inl rfl) (.inr rfl)) (fun _ _ _ _ _ => pf_nil) (fun _ _ _ _ _ => pe_ix ix_list (pv 0) pe_int (fun _ _ => rfl))) pa_nil)))))), ?_⟩
    have hlen := hx.length
    refine ⟨_, rfl, l, rfl, ⟨_, SqL.of hl⟩, for_list (K := K) (a := l) (xs := xs) (fun i σ H2 => Same H H2 ∧ (nss.take i).all (grpOk q f) = true ∧ ∃ u, σ = [some (.ref l), some (.int q), some (.int f), u])
      ⟨Same.rfl', by simp, _, rfl⟩ (fun i σ H2 _ ⟨e, _⟩ => SqL.of (e _ _ hl)) ?_ ?_⟩
    · rintro i x σ H2 hi ⟨s2, ha, u, rfl⟩
      obtain ⟨ns, hns, a, rfl, hat⟩ := hx.get hi
      have ha2 : LI H2 a ns := s2 _ _ hat
      have no : grpOk q f ns = false → ∀ H3, Same H H3 → Q (.bl false) H3 := fun hg H3 s3 => by
        have := kQ H3 s3
        unfold groupsOk at this
        rw [all_no hns hg] at this
        exact this
      refine ⟨_, rfl, a, _, rfl, .inl (SqL.of ha2), _, rfl, _, _, rfl, rfl, _, rfl, ?_⟩
      rw [List.length_map]
      by_cases h1 : (ns.length : Int) < f
      · rw [decide_eq_true h1]
        refine iteT (iteT (no ?_ _ s2))
        unfold grpOk
        rw [decide_eq_true h1]
        rfl
      · rw [decide_eq_false h1]
        refine iteF ⟨_, rfl, _, rfl, a, ns, q, rfl, ha2, Nat.le_trans (len_le_flat hns) hn, fun H3 s3 => ?_⟩
        refine ⟨_, rfl, ?_⟩
        have eg : grpOk q f ns = risesB ns q := by
          unfold grpOk
          rw [decide_eq_false h1]
          rfl
        cases hb : risesB ns q with
        | false => exact iteT (no (eg.trans hb) _ (s2.tr s3))
        | true =>
          refine iteF ⟨s2.tr s3, ?_, _, rfl⟩
          rw [take_snoc' hns, List.all_append, ha]
          simp [eg.trans hb]
    · rintro σ H2 ⟨s2, ha, u, rfl⟩
      rw [hlen, List.take_length] at ha
      have hl2 := s2 _ _ hl
      refine ⟨_, rfl, l, xs, nss, rfl, hl2, hx.same s2, hn, fun H3 s3 => ⟨_, rfl, ?_⟩⟩
      have e0 : groupsOk nss q f = (once nss && rising (nss.map (·.headD 0))) := by unfold groupsOk; rw [ha]; rfl
      cases ho : once nss with
      | false =>
        refine iteF ?_
        have := kQ H3 (s2.tr s3)
        rw [e0, ho] at this
        exact this
      | true =>
        have q3 := s3 _ _ hl2
        refine iteT ⟨_, rfl, l, rfl, ⟨_, SqL.of q3⟩, fun D hD => comp_ext0 (n := nss.length) hD (fun i => (nss.take i).map fun g => V.int (g.headD 0)) rfl (fun i hi => ?_) (fun i H4 hi sm hD4 => ?_) (fun H4 sm hD4 => ?_)⟩
        · rw [List.length_map, List.length_take]
          exact small1000 (by omega)
        · obtain ⟨x, hxi⟩ : ∃ x, xs[i]? = some x := ⟨_, List.getElem?_eq_getElem (by omega)⟩
          obtain ⟨ns, hns, a, rfl, hat⟩ := hx.get hxi
          have q4 := sm _ _ q3
          refine ⟨⟨_, _, SqL.of q4, hxi⟩, fun K1 k1 x H' y => ?_⟩
          obtain ⟨rfl, e⟩ := y
          have ex := e _ (SqL.of q4)
          rw [hxi] at ex
          cases ex
          have hg : grpOk q f ns = true := List.all_eq_true.mp ha ns (List.mem_of_getElem? hns)
          have hne : ns ≠ [] := fun z => by
            subst z
            unfold grpOk at hg
            rw [decide_eq_true (show ((([] : List Int).length : Nat) : Int) < f by show (0 : Int) < f; omega)] at hg
            cases hg
          have at4 : LI H' a ns := sm _ _ (s3 _ _ (s2 _ _ hat))
          refine ⟨rfl, ⟨_, rfl, a, _, _, V.int (ns.headD 0), rfl, rfl, SqL.of at4, atI_nat (j := 0) ?_, k1 _ _ Same.rfl' ?_⟩⟩
          · cases ns with
            | nil => exact absurd rfl hne
            | cons n r => rfl
          · rw [take_snoc hns]
        · have q4 := sm _ _ q3
          have hD4' : LI H4 D (nss.map (·.headD 0)) := by
            rw [LI, hD4, List.take_length, List.map_map]
            rfl
          refine ⟨⟨_, SqL.of q4, by rw [hlen]; exact Nat.le_refl _⟩, D, _, rfl, hD4', by rw [List.length_map]; exact hn2, fun H5 s5 => ?_⟩
          have := kQ H5 (((s2.tr s3).tr (sm)).tr s5)
          rw [e0, ho, Bool.true_and] at this
          exact this
end
end K05
namespace K05
open PySem L2 XM
section
variable {P : Program} {w : World} {K : PySem.W.Frag} {mg : Str → Option Value} {base : Heap} {CE CS CQ CP CT : Addr}

/-! is_quarter -/
def spIsq : Sp := fun vs H Q _ => ∃ a q, vs = [.int a, .int q] ∧ Q (.bl (decide (0 ≤ a) && decide (a < q))) H
theorem scIsq : FnScope ["number", "quarters"] ["number", "quarters"] (defScope sIsq) := ⟨rfl, rfl, rfl, by decide +kernel, rfl, by decide +kernel, by decide +kernel⟩
theorem ok_isq {f : Addr} {fd : FuncData} (F : Fun K "is_quarter" "is_quarter" sIsq f fd) : FnOk P w K mg base CX0 1 f fd ["number", "quarters"] spIsq := by
  refine F.ok scIsq (fun vs H Q E h => ?_) (fun cdv A outer s H vs Q E hr h => ?_)
  · obtain ⟨a, q, rfl, _⟩ := h
    rfl
  · obtain ⟨a, q, rfl, k⟩ := h
    refine ⟨_, pss_one (ps_ret (pe_chain op_le op_lt pe_int (pv 0) (pv 1))), ?_⟩
    refine ⟨_, rfl, _, _, rfl, rfl, _, rfl, ?_⟩
    by_cases h : 0 ≤ a
    · rw [decide_eq_true h] at k ⊢
      exact iteT ⟨_, rfl, _, _, rfl, rfl, k⟩
    · rw [decide_eq_false h] at k ⊢
      exact iteF k

/-! joins_two -/
def spJoin : Sp := fun vs H Q _ => ∃ a b q, vs = [.int a, .int b, .int q] ∧ Q (.bl (okPair q (a, b))) H
theorem scJoin : FnScope ["one", "other", "quarters"] ["one", "other", "quarters"] (defScope sJoin) := ⟨rfl, rfl, rfl, by decide +kernel, rfl, by decide +kernel, by decide +kernel⟩
theorem ok_join {f f1 : Addr} {fd fd1 : FuncData} (F : Fun K "joins_two" "joins_two" sJoin f fd) (F1 : Fun K "is_quarter" "is_quarter" sIsq f1 fd1) (b1 : Binds K fd1 ["number", "quarters"] []) (m1 : mg "is_quarter" = some (.ref f1)) :
    FnOk P w K mg base CX0 2 f fd ["one", "other", "quarters"] spJoin := by
  have G1 : FnOk P w K mg base CX0 1 f1 fd1 ["number", "quarters"] spIsq := ok_isq F1
  refine F.ok scJoin (fun vs H Q E h => ?_) (fun cdv A outer s H vs Q E hr h => ?_)
  · obtain ⟨a, b, q, rfl, _⟩ := h
    rfl
  · obtain ⟨a, b, q, rfl, k⟩ := h
    refine ⟨_, pss_one (ps_ret (pe_and (pe_call G1 hr (by rfl) m1 F1.kp b1 .nil pass0 (pa_cons (pv 0) (pa_cons (pv 2) pa_nil)))
      (pe_and (pe_call G1 hr (by rfl) m1 F1.kp b1 .nil pass0 (pa_cons (pv 1) (pa_cons (pv 2) pa_nil))) (pe_one (pe_cmpR op_ne (pv 0) (pv 1) (nomark _)))))), ?_⟩
    refine ⟨_, rfl, _, rfl, a, q, rfl, _, rfl, ?_⟩
    unfold okPair at k
    dsimp only at k
    cases h1 : (decide (0 ≤ a) && decide (a < q)) with
    | false =>
      rw [h1] at k
      exact iteF k
    | true =>
      rw [h1] at k
      refine iteT ⟨_, rfl, _, rfl, b, q, rfl, _, rfl, ?_⟩
      cases h2 : (decide (0 ≤ b) && decide (b < q)) with
      | false =>
        rw [h2] at k
        exact iteF k
      | true =>
        rw [h2] at k
        refine iteT ⟨_, rfl, _, rfl, rfl, ?_⟩
        have e : decide (V.int a = V.int b) = decide (a = b) := by simp
        rw [e]
        exact k

/-! check_town: of a town that fits -/
def spCheck : Sp := fun vs H Q _ => ∃ (q : Int) (l : Addr) (xs : List V) (ps : PP), vs = [.int q, .ref l] ∧ H l = some (.lst xs) ∧ PV H xs ps ∧ fits q ps = true ∧ Q .non H
theorem scCheck : FnScope ["quarters", "bridges", "one", "other"] ["quarters", "bridges"] (defScope sCheck) := ⟨rfl, rfl, rfl, by decide +kernel, rfl, by decide +kernel, by decide +kernel⟩
theorem fits_iff {q : Int} {ps : PP} (h : fits q ps = true) : (1 ≤ q ∧ q ≤ 24) ∧ ps.length ≤ 60 ∧ ∀ p ∈ ps, okPair q p = true := by
  unfold fits at h
  simp only [Bool.and_eq_true, decide_eq_true_eq, List.all_eq_true] at h
  exact ⟨h.1, h.2.1, h.2.2⟩
theorem ok_check {f f1 : Addr} {fd fd1 : FuncData} (T : Txt K mg CE CS CQ CP CT) (F : Fun K "check_town" "check_town" sCheck f fd) (G1 : FnOk P w K mg base CX0 2 f1 fd1 ["one", "other", "quarters"] spJoin) (b1 : Binds K fd1 ["one", "other", "quarters"] []) (m1 : mg "joins_two" = some (.ref f1)) (k1 : PySem.W.keepIn K (.ref f1) = true) :
    FnOk P w K mg base CX0 3 f fd ["quarters", "bridges"] spCheck := by
  obtain ⟨t24, m24⟩ := T.mq
  obtain ⟨t60, m60⟩ := T.mb
  refine F.ok scCheck (fun vs H Q E h => ?_) (fun cdv A outer s H vs Q E hr h => ?_)
  · obtain ⟨q, l, xs, ps, rfl, _⟩ := h
    rfl
  · obtain ⟨q, l, xs, ps, rfl, hl, hp, hf, kQ⟩ := h
    obtain ⟨⟨h1, h2⟩, h3, h4⟩ := fits_iff hf
    refine ⟨_, pss_cons (ps_if (pt_not (pt_chain op_le op_le pe_int (pv 0) (pe_glob (v := .int 24) (by rfl) m24 ⟨_, rfl⟩))) (pss_one ps_never) pss_nil)
      (pss_cons (ps_if (pt_cmpR op_gt (pe_callB call_len_seq (by rfl) T.len PySem.boot_len (pa_cons (pv 1) pa_nil)) (pe_glob (v := .int 60) (by rfl) m60 ⟨_, rfl⟩) (nomark _)) (pss_one ps_never) pss_nil)
      (pss_one (ps_for PassesOwn.never rfl (pi_list (pv 1)) (pg_tup rfl (pgs_cons (pg_name (i := 2) scCheck.nd rfl (Or.inl rfl)) (pgs_cons (pg_name (i := 3) scCheck.nd rfl (Or.inl rfl)) pgs_nil)))
        (pss_one (ps_if (pt_not (pt_val (pe_call G1 hr (by rfl) m1 k1 b1 .nil pass0 (pa_cons (pv 2) (pa_cons (pv 3) (pa_cons (pv 0) pa_nil)))))) (pss_one ps_never) pss_nil))))), ?_⟩
    have hlen := hp.length
    refine ⟨_, rfl, _, _, rfl, rfl, _, rfl, ?_⟩
    rw [decide_eq_true h1]
    refine iteT ⟨_, _, rfl, rfl, _, rfl, ?_⟩
    rw [decide_eq_true h2]
    refine iteF ⟨_, rfl, l, xs, rfl, .inl (SqL.of hl), _, _, rfl, rfl, _, rfl, ?_⟩
    rw [decide_eq_false (show ¬ (60 : Int) < (xs.length : Int) by omega)]
    refine iteF ⟨_, rfl, l, rfl, ⟨_, SqL.of hl⟩, for_list (K := K) (a := l) (xs := xs) (fun i σ H2 => H2 = H ∧ ∃ u v, σ = [some (.int q), some (.ref l), u, v])
      ⟨rfl, _, _, rfl⟩ (fun i σ H2 _ ⟨e, _⟩ => by subst e; exact SqL.of hl) ?_ ?_⟩
    · rintro i x σ H2 hi ⟨rfl, u, v, rfl⟩
      obtain ⟨p, hpi, a, rfl, hat⟩ := hp.get hi
      refine ⟨a, _, rfl, SqT.of hat, rfl, _, _, rfl, _, _, rfl, rfl, _, rfl, _, rfl, _, rfl, p.1, p.2, q, rfl, _, rfl, ?_⟩
      rw [h4 p (List.mem_of_getElem? hpi)]
      exact iteF ⟨rfl, _, _, rfl⟩
    · rintro σ H2 ⟨rfl, u, v, rfl⟩
      exact kQ

/-! Town.__init__ -/
theorem qb : ¬ (("quarters" : Str) = "bridges") := by decide +kernel
def flds (q : Int) (l : Addr) : List (Str × V) := putF "bridges" (.ref l) (putF "quarters" (.int q) [])
theorem flds_q (q : Int) (l : Addr) : (flds q l).lookup ("quarters" : Str) = some (.int q) := by
  unfold flds
  rw [lookup_putF, if_neg qb, lookup_putF, if_pos rfl]
theorem flds_b (q : Int) (l : Addr) : (flds q l).lookup ("bridges" : Str) = some (.ref l) := by
  unfold flds
  rw [lookup_putF, if_pos rfl]
/-- a town stands at p, its list at l -/
def TownAt (CT : Addr) (H : Hp) (p l : Addr) (q : Int) (xs : List V) : Prop := (∃ dx, H p = some (.ins CT dx (flds q l))) ∧ H l = some (.lst xs)
theorem TownAt.same {H H' : Hp} {p l : Addr} {q : Int} {xs : List V} (h : TownAt CT H p l q xs) (s : Same H H') : TownAt CT H' p l q xs := ⟨let ⟨dx, e⟩ := h.1; ⟨dx, s _ _ e⟩, s _ _ h.2⟩
def spInit (CT : Addr) : Sp := fun vs H Q _ => ∃ (p dx : Addr) (q : Int) (l : Addr) (xs : List V) (ps : PP), vs = [.ref p, .int q, .ref l] ∧ H p = some (.ins CT dx []) ∧ H l = some (.lst xs) ∧ PV H xs ps ∧ fits q ps = true ∧
  ∀ (l2 : Addr) (H' : Hp), H l2 = none → TownAt CT H' p l2 q xs → (∀ b o, H b = some o → b ≠ p → H' b = some o) → Q .non H'
theorem scInit : FnScope ["self", "quarters", "bridges"] ["self", "quarters", "bridges"] (defScope sInit) := ⟨rfl, rfl, rfl, by decide +kernel, rfl, by decide +kernel, by decide +kernel⟩
theorem ok_init {f f1 : Addr} {fd fd1 : FuncData} (T : Txt K mg CE CS CQ CP CT) (F : Fun K "__init__" "Town.__init__" sInit f fd) (G1 : FnOk P w K mg base CX0 3 f1 fd1 ["quarters", "bridges"] spCheck) (b1 : Binds K fd1 ["quarters", "bridges"] []) (m1 : mg "check_town" = some (.ref f1)) (k1 : PySem.W.keepIn K (.ref f1) = true) :
    FnOk P w K mg base CX0 4 f fd ["self", "quarters", "bridges"] (spInit CT) := by
  refine F.ok scInit (fun vs H Q E h => ?_) (fun cdv A outer s H vs Q E hr h => ?_)
  · obtain ⟨p, dx, q, l, xs, ps, rfl, _⟩ := h
    rfl
  · obtain ⟨p, dx, q, l, xs, ps, rfl, hp, hl, hv, hf, kQ⟩ := h
    refine ⟨_, pss_cons (ps_expr (pe_call G1 hr (by rfl) m1 k1 b1 .nil pass0 (pa_cons (pv 1) (pa_cons (pv 2) pa_nil))))
      (pss_cons (ps_fld (pv 0) (pv 1) rfl)
      (pss_one (ps_fld (pv 0) (pe_callTy call_list_of (by rfl) T.list bt_list (pa_cons (pv 2) pa_nil)) rfl))), ?_⟩
    refine ⟨_, rfl, _, rfl, q, l, xs, ps, rfl, hl, hv, hf, ?_⟩
    have npl : p ≠ l := ne_of hp hl (by intro z; cases z)
    refine ⟨_, rfl, _, rfl, p, CT, dx, _, rfl, hp, T.cl, T.nq, (by show 0 < 1000; decide), ?_⟩
    refine ⟨_, rfl, l, xs, rfl, .inl (SqL.of (by rw [upd_ne npl.symm]; exact hl)), fun l2 hn => ?_⟩
    have np2 : p ≠ l2 := ne_of_none upd_same hn
    have hn' : H l2 = none := by rw [upd_ne np2.symm] at hn; exact hn
    refine ⟨_, rfl, p, CT, dx, _, rfl, (by rw [upd_ne np2]; exact upd_same), T.cl, T.nb, (by show 1 < 1000; decide), ?_⟩
    refine kQ l2 _ hn' ⟨⟨dx, upd_same⟩, by rw [upd_ne np2.symm, upd_same]⟩ fun b o e hb => ?_
    rw [upd_ne hb, upd_ne (ne_of_none e hn'), upd_ne hb]
    exact e

/-! is_parting -/
def lens (nss : List (List Int)) : List Int := nss.map fun g => (g.length : Int)
def isPart (nss : List (List Int)) (q : Int) : Bool := groupsOk nss q 1 && decide ((lens nss).sum = q)
def spIsPart (CT : Addr) : Sp := fun vs H Q _ => ∃ (p l2 : Addr) (q : Int) (ys : List V) (l : Addr) (xs : List V) (nss : List (List Int)), vs = [.ref p, .ref l] ∧ TownAt CT H p l2 q ys ∧ H l = some (.lst xs) ∧ LS H xs nss ∧ nss.flatten.length ≤ 1000 ∧ nss.length ≤ 1000 ∧ ∀ H', Same H H' → Q (.bl (isPart nss q)) H'
theorem scIsPart : FnScope ["town", "parting"] ["town", "parting"] (defScope sIsPart) := ⟨rfl, rfl, rfl, by decide +kernel, rfl, by decide +kernel, by decide +kernel⟩
theorem lens_sum : ∀ nss : List (List Int), (lens nss).sum = (nss.flatten.length : Int)
  | [] => rfl
  | g :: r => by
    have := lens_sum r
    unfold lens at this ⊢
    rw [List.map_cons, List.sum_cons, this, List.flatten_cons, List.length_append]
    omega
theorem ok_isPart {f f1 : Addr} {fd fd1 : FuncData} (T : Txt K mg CE CS CQ CP CT) (F : Fun K "is_parting" "is_parting" sIsPart f fd)
    (G1 : FnOk P w K mg base CX0 3 f1 fd1 ["groups", "quarters", "fewest"] spGroups) (b1 : Binds K fd1 ["groups", "quarters", "fewest"] []) (m1 : mg "are_groups" = some (.ref f1)) (k1 : PySem.W.keepIn K (.ref f1) = true) :
    FnOk P w K mg base CX0 4 f fd ["town", "parting"] (spIsPart CT) := by
  refine F.ok scIsPart (fun vs H Q E h => ?_) (fun cdv A outer s H vs Q E hr h => ?_)
  · obtain ⟨p, l2, q, ys, l, xs, nss, rfl, _⟩ := h
    rfl
  · obtain ⟨p, l2, q, ys, l, xs, nss, rfl, ⟨⟨dx, ht⟩, hl2⟩, hl, hx, hn, hn2, kQ⟩ := h
    have nd2 : ((["part"] : List Str) ++ ([] : List Str)).Nodup := by decide +kernel
    refine ⟨_, pss_one (ps_ret (pe_and (pe_call G1 hr (by rfl) m1 k1 b1 .nil pass0 (pa_cons (pv 1) (pa_cons (pe_fld (pv 0) rfl) (pa_cons pe_int pa_nil))))
      (pe_one (pe_cmpR op_eq (pe_callB (call_sumI rfl) (by rfl) T.sum boot_sum (pa_cons
        (pe_comp (own := ["part"]) (caps := []) (cs := []) (sc := defScope sIsPart) ⟨rfl, rfl, by decide +kernel, by decide +kernel, by decide +kernel, by decide +kernel, rfl⟩ rfl
        (pi_list (pv 1)) (fun _ _ _ _ _ => pg_name (i := 0) nd2 rfl (Or.inl rfl) (.inr rfl)) (fun _ _ _ _ _ => pf_nil) (fun _ _ _ _ _ => pe_callB call_len_seq (by rfl) T.len PySem.boot_len (pa_cons (pv 0) pa_nil))) pa_nil))
        (pe_fld (pv 0) rfl) (nomark _))))), ?_⟩
    have hlen := hx.length
    refine ⟨_, rfl, _, rfl, p, CT, dx, _, _, rfl, ht, T.cl, T.nq, flds_q _ _, l, xs, nss, q, 1, rfl, hl, hx, by omega, hn, hn2, fun H1 s1 => ⟨_, rfl, ?_⟩⟩
    have e0 : isPart nss q = (groupsOk nss q 1 && decide ((lens nss).sum = q)) := rfl
    cases hg : groupsOk nss q 1 with
    | false =>
      refine iteF ?_
      have := kQ H1 s1
      rw [e0, hg] at this
      exact this
    | true =>
      have q1 := s1 _ _ hl
      refine iteT ⟨_, rfl, l, rfl, ⟨_, SqL.of q1⟩, fun D hD => comp_ext0 (n := nss.length) hD (fun i => (nss.take i).map fun g => V.int (g.length : Int)) rfl (fun i hi => ?_) (fun i H4 hi sm hD4 => ?_) (fun H4 sm hD4 => ?_)⟩
      · rw [List.length_map, List.length_take]
        exact small1000 (by omega)
      · obtain ⟨x, hxi⟩ : ∃ x, xs[i]? = some x := ⟨_, List.getElem?_eq_getElem (by omega)⟩
        obtain ⟨ns, hns, a, rfl, hat⟩ := hx.get hxi
        have q4 := sm _ _ q1
        refine ⟨⟨_, _, SqL.of q4, hxi⟩, fun K1 k1 x H' y => ?_⟩
        obtain ⟨rfl, e⟩ := y
        have ex := e _ (SqL.of q4)
        rw [hxi] at ex
        cases ex
        have at4 : LI H' a ns := sm _ _ (s1 _ _ hat)
        refine ⟨rfl, ⟨_, rfl, a, _, rfl, .inl (SqL.of at4), k1 _ _ Same.rfl' ?_⟩⟩
        rw [take_snoc hns, List.length_map]
      · have q4 := sm _ _ q1
        have hD4' : LI H4 D (lens nss) := by
          rw [LI, hD4, List.take_length]
          unfold lens
          rw [List.map_map]
          rfl
        have bnd : ∀ j, 0 ≤ ((lens nss).take j).sum ∧ ((lens nss).take j).sum ≤ 1000 := fun j => by
          have e : (lens nss).take j = lens (nss.take j) := by unfold lens; rw [List.map_take]
          rw [e, lens_sum]
          have := flat_take_le nss j
          omega
        refine ⟨⟨_, SqL.of q4, by rw [hlen]; exact Nat.le_refl _⟩, D, _, rfl, SqL.of hD4', fun j _ => ⟨by have := (bnd j).1; omega, by have := (bnd j).2; omega⟩, fun n hn3 => ?_, ?_⟩
        · unfold lens at hn3
          obtain ⟨g, hg2, rfl⟩ := List.mem_map.mp hn3
          obtain ⟨i, hi, e⟩ := List.mem_iff_getElem.mp hg2
          have := len_le_flat (show nss[i]? = some g by rw [List.getElem?_eq_getElem hi, e])
          exact ⟨by omega, by omega⟩
        · refine ⟨_, rfl, p, CT, dx, _, _, rfl, sm _ _ (s1 _ _ ht), T.cl, T.nq, flds_q _ _, rfl, ?_⟩
          have := kQ H4 (s1.tr sm)
          rw [e0, hg, Bool.true_and] at this
          rw [dec_int]
          exact this
end
end K05
namespace K05
open PySem L2 XM
section
variable {P : Program} {w : World} {K : PySem.W.Frag} {mg : Str → Option Value} {base : Heap} {CE CS CQ CP CT : Addr}

/-! part_places -/
def spPlaces : Sp := fun vs H Q _ => ∃ (l : Addr) (xs : List V) (nss : List (List Int)), vs = [.ref l] ∧ H l = some (.lst xs) ∧ LS H xs nss ∧ nss.flatten.Nodup ∧ nss.flatten.length ≤ 1000 ∧
  ∀ (H' : Hp) (d : Addr) (kvs : List (Key × V)), Same H H' → H' d = some (.dK kvs) → (∀ (i : Nat) g, nss[i]? = some g → ∀ x ∈ g, valV kvs (Sum.inl x) = some (.int i)) → Q (.ref d) H'
theorem scPlaces : FnScope ["parting", "places", "place", "part", "quarter"] ["parting"] (defScope sPlaces) := ⟨rfl, rfl, rfl, by decide +kernel, rfl, by decide +kernel, by decide +kernel⟩
theorem nodup_apart {nss : List (List Int)} (h : nss.flatten.Nodup) {i j : Nat} {g g' : List Int} {x : Int} (hi : nss[i]? = some g) (hj : nss[j]? = some g') (hx : x ∈ g) (hx' : x ∈ g') (hlt : j < i) : False := by
  have e : (nss.take (i + 1)).flatten = (nss.take i).flatten ++ g := flat_take hi
  have sub : ((nss.take (i + 1)).flatten).Nodup := by
    have e2 : nss.flatten = (nss.take (i + 1)).flatten ++ (nss.drop (i + 1)).flatten := by rw [← List.flatten_append, List.take_append_drop]
    rw [e2] at h
    exact (List.nodup_append.mp h).1
  rw [e] at sub
  refine (List.nodup_append.mp sub).2.2 x ?_ x hx rfl
  refine List.mem_flatten.mpr ⟨g', ?_, hx'⟩
  refine List.mem_of_getElem? (i := j) ?_
  rw [List.getElem?_take, if_pos hlt, hj]
theorem ok_places {f : Addr} {fd : FuncData} (T : Txt K mg CE CS CQ CP CT) (F : Fun K "part_places" "part_places" sPlaces f fd) : FnOk P w K mg base CX0 1 f fd ["parting"] spPlaces := by
  refine F.ok scPlaces (fun vs H Q E h => ?_) (fun cdv A outer s H vs Q E hr h => ?_)
  · obtain ⟨l, xs, nss, rfl, _⟩ := h
    rfl
  · obtain ⟨l, xs, nss, rfl, hl, hx, hnd, hn, kQ⟩ := h
    have hu := hu_of hr
    refine ⟨_, pss_cons (ps_set (i := 1) scPlaces.nd rfl (Or.inl rfl) pe_dnewK)
      (pss_cons (ps_for PassesOwn.never rfl (pi_enum (by rfl) T.enum (pa_cons (pv 0) pa_nil)) (pg_tup (n := 2) rfl (pgs_cons (pg_name (i := 2) scPlaces.nd rfl (Or.inl rfl)) (pgs_cons (pg_name (i := 3) scPlaces.nd rfl (Or.inl rfl)) pgs_nil)))
        (pss_one (ps_for PassesOwn.never rfl (pi_list (pv 3)) (pg_name (i := 4) scPlaces.nd rfl (Or.inl rfl)) (pss_one (ps_dput hu (pv 1) (pv 4) (pv 2) rfl)))))
      (pss_one (ps_ret (pv 1)))), ?_⟩
    have hlen := hx.length
    intro d hd
    have s0 : Same H (upd H d (.dK [])) := Same.rfl'.new hd
    refine ⟨_, rfl, l, _, rfl, SqL.of (s0 _ _ hl), for_enum (K := K) (a := l) (xs := xs) (fun i σ H2 => Same H H2 ∧ (∃ kvs, H2 d = some (.dK kvs) ∧ kvs.length ≤ (nss.take i).flatten.length ∧
        ∀ (i' : Nat) g, i' < i → nss[i']? = some g → ∀ x ∈ g, valV kvs (Sum.inl x) = some (.int i')) ∧ ∃ u v z, σ = [some (.ref l), some (.ref d), u, v, z])
      ⟨s0, ⟨[], upd_same, by simp, fun i' g z => absurd z (by omega)⟩, _, _, _, rfl⟩ (fun i σ H2 _ ⟨e, _⟩ => SqL.of (e _ _ hl)) ?_ ?_⟩
    · rintro i x σ H2 t hi ⟨s2, ⟨kvs, hd2, hk, hv⟩, u, v, z, rfl⟩ ht
      obtain ⟨g, hg, a, rfl, hat⟩ := hx.get hi
      have s3 : Same H2 (upd H2 t (.tup [.int i, .ref a])) := Same.rfl'.new ht
      refine ⟨t, _, rfl, SqT.of upd_same, rfl, _, _, rfl, _, _, rfl, rfl, ?_⟩
      refine ⟨_, rfl, a, rfl, ⟨_, SqL.of (s3 _ _ (s2 _ _ hat))⟩, for_list (K := K) (a := a) (xs := g.map V.int) (fun j σ H3 => Same H H3 ∧ (∃ kvs, H3 d = some (.dK kvs) ∧ kvs.length ≤ (nss.take i).flatten.length + j ∧
        (∀ (i' : Nat) g', i' < i → nss[i']? = some g' → ∀ x ∈ g', valV kvs (Sum.inl x) = some (.int i')) ∧ ∀ x ∈ g.take j, valV kvs (Sum.inl x) = some (.int i)) ∧ ∃ z, σ = [some (.ref l), some (.ref d), some (.int i), some (.ref a), z])
        ⟨s2.tr s3, ⟨kvs, s3 _ _ hd2, by omega, hv, fun x z => by simp at z⟩, _, rfl⟩ (fun j σ H3 _ ⟨e, _⟩ => SqL.of (e _ _ hat)) ?_ ?_⟩
      · rintro j y σ H3 hj ⟨s4, ⟨kvs, hd3, hk3, hv3, hw3⟩, z, rfl⟩
        rw [List.getElem?_map] at hj
        obtain ⟨n, hnj, rfl⟩ := Option.map_eq_some_iff.mp hj
        have hjl : j < g.length := (List.getElem?_eq_some_iff.mp hnj).1
        have hgl : (nss.take i).flatten.length + g.length ≤ 1000 := by
          have := flat_take_le nss (i + 1)
          rw [flat_take hg, List.length_append] at this
          omega
        refine ⟨_, rfl, _, rfl, _, rfl, d, _, rfl, DPut.k (k := Sum.inl n) hd3 (small1000 (by omega)), ?_⟩
        refine ⟨fun b o e => by rw [upd_ne (ne_of_none e hd)]; exact s4 _ _ e, ⟨_, upd_same, ?_, fun i' g' hlt hg' x hx' => ?_, fun x hx' => ?_⟩, _, rfl⟩
        · have := length_putK kvs (Sum.inl n) (.int i)
          omega
        · rw [valV_put, if_neg fun e => ?_]
          · exact hv3 i' g' hlt hg' x hx'
          · have e' : x = n := Sum.inl.inj e
            subst e'
            exact nodup_apart hnd hg hg' (List.mem_of_getElem? hnj) hx' hlt
        · rw [take_snoc' hnj] at hx'
          rw [valV_put]
          by_cases e : (Sum.inl x : Key) = Sum.inl n
          · rw [if_pos e]
          · rw [if_neg e]
            rcases List.mem_append.mp hx' with h | h
            · exact hw3 x h
            · exact absurd (congrArg Sum.inl (List.mem_singleton.mp h)) e
      · rintro σ H3 ⟨s4, ⟨kvs, hd3, hk3, hv3, hw3⟩, z, rfl⟩
        rw [List.length_map] at hk3 hw3
        refine ⟨s4, ⟨kvs, hd3, ?_, fun i' g' hlt hg' x hx' => ?_⟩, _, _, _, rfl⟩
        · rw [flat_take hg, List.length_append]
          exact hk3
        · by_cases e : i' = i
          · subst e
            rw [hg] at hg'
            cases hg'
            exact hw3 x (by rw [List.take_length]; exact hx')
          · exact hv3 i' g' (by omega) hg' x hx'
    · rintro σ H2 ⟨s2, ⟨kvs, hd2, hk, hv⟩, u, v, z, rfl⟩
      refine ⟨_, rfl, kQ H2 d kvs s2 hd2 fun i g hg => hv i g ?_ hg⟩
      have := (List.getElem?_eq_some_iff.mp hg).1
      omega

/-! check_some_quarters -/
def someQ (ns : List Int) (q : Int) : Bool := !decide (ns = []) && risesB ns q
def spCheckQ (CQ : Addr) : Sp := fun vs H Q E => ∃ (l : Addr) (ns : List Int) (q : Int), vs = [.ref l, .int q] ∧ LI H l ns ∧ ns.length ≤ 1000 ∧ (someQ ns q = true → ∀ H', Same H H' → Q .non H') ∧ (someQ ns q = false → ∀ H', Same H H' → E (.ref CQ) none H')
theorem scCheckQ : FnScope ["some", "quarters"] ["some", "quarters"] (defScope sCheckQ) := ⟨rfl, rfl, rfl, by decide +kernel, rfl, by decide +kernel, by decide +kernel⟩
theorem ok_checkQ {f f1 : Addr} {fd fd1 : FuncData} (T : Txt K mg CE CS CQ CP CT) (F : Fun K "check_some_quarters" "check_some_quarters" sCheckQ f fd)
    (G1 : FnOk P w K mg base CX0 2 f1 fd1 ["numbers", "count"] spRisesB) (b1 : Binds K fd1 ["numbers", "count"] []) (m1 : mg "rises_below" = some (.ref f1)) (k1 : PySem.W.keepIn K (.ref f1) = true) :
    FnOk P w K mg base (CXE P w) 3 f fd ["some", "quarters"] (spCheckQ CQ) := by
  refine F.okE scCheckQ (fun vs H Q E h => ?_) (fun cdv A outer s H vs Q E hr h => ?_)
  · obtain ⟨l, ns, q, rfl, _⟩ := h
    rfl
  · obtain ⟨l, ns, q, rfl, hl, hn, kQ, kE⟩ := h
    have lets := lets_cx (P := P) (w := w) (K := K) (mg := mg) (base := base) (N := ["some", "quarters"]) (qual := "check_some_quarters") (scope := defScope sCheckQ) (f := f) (cd := cdv) (A := A) (outer := outer) (s := s) (H := H) (E := E)
    refine ⟨_, pss_one (ps_if (pw_or (pt_cmpR op_eq (pe_callB call_len_seq (by rfl) T.len PySem.boot_len (pa_cons (pv 0) pa_nil)) pe_int (nomark _))
      (pw_or1 (pt_not (pt_val (pe_call G1 hr (by rfl) m1 k1 b1 .nil pass0 (pa_cons (pv 0) (pa_cons (pv 1) pa_nil))))))).pt (pss_one (ps_raise lets T.errQ hr.hd (by rfl) T.mgBQ (pa_cons pe_str pa_nil))) pss_nil), ?_⟩
    refine ⟨_, rfl, l, _, rfl, .inl (SqL.of hl), rfl, _, rfl, ?_⟩
    rw [List.length_map, show decide (V.int (ns.length : Int) = V.int 0) = decide (ns = []) from decide_eq_decide.mpr ⟨fun e => by
      cases ns with
      | nil => rfl
      | cons n r => injection e with e; simp at e; omega, fun e => by rw [e]; rfl⟩]
    by_cases h1 : ns = []
    · rw [decide_eq_true h1]
      refine iteT (iteT ⟨by show 1 ≤ sizeLine; decide, kE ?_ _ Same.rfl'⟩)
      unfold someQ
      rw [decide_eq_true h1]
      rfl
    · rw [decide_eq_false h1]
      have e0 : someQ ns q = risesB ns q := by unfold someQ; rw [decide_eq_false h1]; rfl
      refine iteF ⟨_, rfl, _, rfl, l, ns, q, rfl, hl, hn, fun H1 s1 => ⟨_, rfl, ?_⟩⟩
      cases hb : risesB ns q with
      | false => exact iteT ⟨by show 1 ≤ sizeLine; decide, kE (e0.trans hb) _ s1⟩
      | true => exact iteF (kQ (e0.trans hb) _ s1)
end
end K05
namespace K05
open PySem L2 XM

/-! plain mathematics -/
theorem dd_len : ∀ (ns acc : List Int), (ns.foldl PyProof.Rows.step_dedup acc).length ≤ acc.length + ns.length
  | [], acc => by simp
  | n :: r, acc => by
    rw [List.foldl_cons]
    have h := dd_len r (PyProof.Rows.step_dedup acc n)
    have h2 : (PyProof.Rows.step_dedup acc n).length ≤ acc.length + 1 := by
      unfold PyProof.Rows.step_dedup
      split <;> simp
    rw [List.length_cons]
    omega
theorem dd_iff : ∀ (ns acc : List Int), acc.Nodup → ((ns.foldl PyProof.Rows.step_dedup acc).length = acc.length + ns.length ↔ (acc ++ ns).Nodup)
  | [], acc, h => by simpa using h
  | n :: r, acc, h => by
    rw [List.foldl_cons]
    by_cases hm : n ∈ acc
    · have e : PyProof.Rows.step_dedup acc n = acc := by
        unfold PyProof.Rows.step_dedup
        rw [if_pos (by simpa using hm)]
      rw [e]
      have := dd_len r acc
      constructor
      · intro z
        rw [List.length_cons] at z
        omega
      · intro z
        exact absurd rfl ((List.nodup_append.mp z).2.2 n hm n List.mem_cons_self)
    · have e : PyProof.Rows.step_dedup acc n = acc ++ [n] := by
        unfold PyProof.Rows.step_dedup
        rw [if_neg (by simpa using hm)]
      rw [e]
      have ih := dd_iff r (acc ++ [n]) (List.nodup_append.mpr ⟨h, by simp, fun a ha b hb => by
        rw [List.mem_singleton] at hb
        subst hb
        exact fun z => hm (z ▸ ha)⟩)
      rw [List.length_append, List.length_singleton, List.append_assoc] at ih
      rw [List.length_cons]
      constructor
      · intro z
        exact ih.mp (by omega)
      · intro z
        have := ih.mpr z
        omega
theorem range_getD (ns : List Int) : ((List.range ns.length).map fun i => ns.getD i 0) = ns := by
  apply List.ext_getElem?
  intro i
  by_cases h : i < ns.length
  · rw [List.getElem?_map, List.getElem?_range h, List.getElem?_eq_getElem h]
    simp [List.getElem?_eq_getElem h]
  · rw [List.getElem?_eq_none (by simpa using h), List.getElem?_eq_none (by simpa using h)]
theorem distinct_iff (ns : List Int) : (distinct ns).length = ns.length ↔ ns.Nodup := by
  have e : distinct ns = ns.foldl PyProof.Rows.step_dedup [] := by
    unfold distinct PyProof.Rows.firstMet
    rw [range_getD]
  rw [e]
  simpa using dd_iff ns [] List.nodup_nil
theorem once_iff (nss : List (List Int)) : once nss = true ↔ nss.flatten.Nodup := by
  unfold once
  rw [decide_eq_true_eq]
  exact distinct_iff _
theorem sub_len : ∀ (l r : List Int), l.Nodup → (∀ x ∈ l, x ∈ r) → r.length ≤ l.length → ∀ x ∈ r, x ∈ l
  | [], r, _, _, h => fun x hx => by
    cases r with
    | nil => cases hx
    | cons a b => simp at h
  | a :: l, r, hn, hs, h => fun x hx => by
    obtain ⟨ha, hl⟩ := List.nodup_cons.mp hn
    have har : a ∈ r := hs a List.mem_cons_self
    have hlen : (r.erase a).length = r.length - 1 := List.length_erase_of_mem har
    rw [List.length_cons] at h
    have ih := sub_len l (r.erase a) hl (fun y hy => by
      refine (List.mem_erase_of_ne fun z => ?_).mpr (hs y (List.mem_cons_of_mem _ hy))
      subst z
      exact ha hy) (by omega)
    by_cases e : x = a
    · rw [e]
      exact List.mem_cons_self
    · exact List.mem_cons_of_mem _ (ih x ((List.mem_erase_of_ne e).mpr hx))
def upto (q : Int) : List Int := (List.range q.toNat).map fun k => ((k : Nat) : Int)
theorem mem_upto {q x : Int} : x ∈ upto q ↔ 0 ≤ x ∧ x < q := by
  unfold upto
  rw [List.mem_map]
  constructor
  · rintro ⟨k, hk, rfl⟩
    have := List.mem_range.mp hk
    omega
  · rintro ⟨h1, h2⟩
    exact ⟨x.toNat, List.mem_range.mpr (by omega), by omega⟩
theorem upto_len (q : Int) : (upto q).length = q.toNat := by unfold upto; simp
theorem upto_nodup (q : Int) : (upto q).Nodup := by
  unfold upto List.Nodup
  rw [List.pairwise_map]
  exact List.nodup_range.imp fun h e => h (Int.ofNat.inj e)
theorem fills {l : List Int} {q : Int} (hn : l.Nodup) (hr : ∀ x ∈ l, 0 ≤ x ∧ x < q) (hl : (l.length : Int) = q) : ∀ x, 0 ≤ x → x < q → x ∈ l := fun x h0 h1 =>
  sub_len l (upto q) hn (fun y hy => mem_upto.mpr (hr y hy)) (by rw [upto_len]; omega) x (mem_upto.mpr ⟨h0, h1⟩)
theorem inR_iff {c n : Int} : inR c n = true ↔ 0 ≤ n ∧ n < c := by
  unfold inR
  rw [Bool.and_eq_true, decide_eq_true_eq, decide_eq_true_eq]
/-- what a parting is -/
structure PartOk (nss : List (List Int)) (q : Int) : Prop where
  nd : nss.flatten.Nodup
  rng : ∀ x ∈ nss.flatten, 0 ≤ x ∧ x < q
  has : ∀ x, 0 ≤ x → x < q → x ∈ nss.flatten
theorem groups_rng {nss : List (List Int)} {q f : Int} (h : nss.all (grpOk q f) = true) : ∀ x ∈ nss.flatten, 0 ≤ x ∧ x < q := fun x hx => by
  obtain ⟨g, hg, hxg⟩ := List.mem_flatten.mp hx
  have := List.all_eq_true.mp h g hg
  unfold grpOk risesB at this
  simp only [Bool.and_eq_true] at this
  exact inR_iff.mp (List.all_eq_true.mp this.2.2 x hxg)
theorem part_ok {nss : List (List Int)} {q : Int} (h : isPart nss q = true) : PartOk nss q := by
  unfold isPart groupsOk at h
  simp only [Bool.and_eq_true, decide_eq_true_eq] at h
  obtain ⟨⟨h1, h2, _⟩, h3⟩ := h
  rw [lens_sum] at h3
  have hr := groups_rng h1
  exact ⟨(once_iff _).mp h2, hr, fills ((once_iff _).mp h2) hr h3⟩
/-- the part of a quarter -/
def pl (nss : List (List Int)) (x : Int) : Nat := nss.findIdx fun g => g.contains x
theorem pl_at {nss : List (List Int)} {x : Int} (h : x ∈ nss.flatten) : ∃ g, nss[pl nss x]? = some g ∧ x ∈ g := by
  obtain ⟨g, hg, hx⟩ := List.mem_flatten.mp h
  have hlt : pl nss x < nss.length := List.findIdx_lt_length_of_exists ⟨g, hg, by simpa using hx⟩
  refine ⟨nss[pl nss x], List.getElem?_eq_getElem hlt, ?_⟩
  have h : (nss[pl nss x]).contains x = true := List.findIdx_getElem (w := hlt)
  simpa using h
/-- numbers below n with p -/
def filtR (n : Nat) (p : Nat → Bool) : List Int := ((List.range n).filter p).map fun k => ((k : Nat) : Int)
theorem filtR_succ (n : Nat) (p : Nat → Bool) : filtR (n + 1) p = filtR n p ++ (if p n = true then [(n : Int)] else []) := by
  unfold filtR
  rw [List.range_succ, List.filter_append, List.map_append]
  by_cases h : p n = true
  · rw [if_pos h, List.filter_cons, if_pos h]
    rfl
  · rw [if_neg h, List.filter_cons, if_neg h]
    rfl
theorem filtR_len (n : Nat) (p : Nat → Bool) : (filtR n p).length ≤ n := by
  unfold filtR
  rw [List.length_map]
  exact Nat.le_trans (List.length_filter_le _ _) (by simp)
theorem filtR_congr {n : Nat} {p p' : Nat → Bool} (h : ∀ k, k < n → p k = p' k) : filtR n p = filtR n p' := by
  unfold filtR
  congr 1
  exact List.filter_congr fun k hk => h k (List.mem_range.mp hk)
def betwP (nss : List (List Int)) (ps : PP) (k : Nat) : Bool := !decide (pl nss (ps.getD k (0, 0)).1 = pl nss (ps.getD k (0, 0)).2)
def withP (ns : List Int) (ps : PP) (k : Nat) : Bool := ns.contains (ps.getD k (0, 0)).1 && ns.contains (ps.getD k (0, 0)).2
theorem getD_at {ps : PP} {i : Nat} {p : Int × Int} (h : ps[i]? = some p) : ps.getD i (0, 0) = p := by rw [List.getD_eq_getElem?_getD, h]; rfl

section
variable {P : Program} {w : World} {K : PySem.W.Frag} {mg : Str → Option Value} {base : Heap} {CE CS CQ CP CT : Addr}

/-! bridges_between -/
def spBetween (CT CP : Addr) : Sp := fun vs H Q E => ∃ (p l2 : Addr) (q : Int) (ys : List V) (ps : PP) (l : Addr) (xs : List V) (nss : List (List Int)), vs = [.ref p, .ref l] ∧ TownAt CT H p l2 q ys ∧ PV H ys ps ∧ fits q ps = true ∧ H l = some (.lst xs) ∧ LS H xs nss ∧
  nss.flatten.length ≤ 1000 ∧ nss.length ≤ 1000 ∧ (isPart nss q = true → ∀ (H' : Hp) (d : Addr), Same H H' → H d = none → LI H' d (filtR ps.length (betwP nss ps)) → Q (.ref d) H') ∧ (isPart nss q = false → ∀ H', Same H H' → E (.ref CP) none H')
theorem scBetween : FnScope ["town", "parting", "places"] ["town", "parting"] (defScope sBetween) := ⟨rfl, rfl, rfl, by decide +kernel, rfl, by decide +kernel, by decide +kernel⟩
theorem ok_between {f f1 f2 : Addr} {fd fd1 fd2 : FuncData} (T : Txt K mg CE CS CQ CP CT) (F : Fun K "bridges_between" "bridges_between" sBetween f fd)
    (G1 : FnOk P w K mg base CX0 4 f1 fd1 ["town", "parting"] (spIsPart CT)) (b1 : Binds K fd1 ["town", "parting"] []) (m1 : mg "is_parting" = some (.ref f1)) (k1 : PySem.W.keepIn K (.ref f1) = true)
    (G2 : FnOk P w K mg base CX0 1 f2 fd2 ["parting"] spPlaces) (b2 : Binds K fd2 ["parting"] []) (m2 : mg "part_places" = some (.ref f2)) (k2 : PySem.W.keepIn K (.ref f2) = true) :
    FnOk P w K mg base (CXE P w) 5 f fd ["town", "parting"] (spBetween CT CP) := by
  refine F.okE scBetween (fun vs H Q E h => ?_) (fun cdv A outer s H vs Q E hr h => ?_)
  · obtain ⟨p, l2, q, ys, ps, l, xs, nss, rfl, _⟩ := h
    rfl
  · obtain ⟨p, l2, q, ys, ps, l, xs, nss, rfl, ⟨⟨dx, ht⟩, hl2⟩, hp, hft, hl, hx, hn, hn2, kQ, kE⟩ := h
    have lets := lets_cx (P := P) (w := w) (K := K) (mg := mg) (base := base) (N := ["town", "parting", "places"]) (qual := "bridges_between") (scope := defScope sBetween) (f := f) (cd := cdv) (A := A) (outer := outer) (s := s) (H := H) (E := E)
    have hu := hu_of hr
    have hr1 := hr.mono (show 1 ≤ 4 by omega)
    have nd2 : ((["bridge", "ends"] : List Str) ++ (["places"] : List Str)).Nodup := by decide +kernel
    refine ⟨_, pss_cons (ps_if (pt_not (pt_val (pe_call G1 hr (by rfl) m1 k1 b1 .nil pass0 (pa_cons (pv 0) (pa_cons (pv 1) pa_nil))))) (pss_one (ps_raise lets T.errP hr.hd (by rfl) T.mgBP (pa_cons pe_str pa_nil))) pss_nil)
      (pss_cons (ps_set (i := 2) scBetween.nd rfl (Or.inr rfl) (pe_call G2 hr1 (by rfl) m2 k2 b2 .nil pass0 (pa_cons (pv 1) pa_nil)))
      (pss_one (ps_ret (pe_comp (own := ["bridge", "ends"]) (caps := ["places"]) (cs := [2]) (sc := defScope sBetween) ⟨rfl, rfl, by decide +kernel, by decide +kernel, by decide +kernel, by decide +kernel, rfl⟩ rfl
        (pi_enum (by rfl) T.enum (pa_cons (pe_fld (pv 0) rfl) pa_nil)) (fun _ _ _ _ _ => pg_tup (n := 2) rfl (pgs_cons (pg_name (i := 0) nd2 rfl (Or.inl rfl) (.inr rfl)) (pgs_cons (pg_name (i := 1) nd2 rfl (Or.inl rfl) (.inr rfl)) pgs_nil)))
        (fun _ _ _ _ _ => pf_one (pt_cmpR op_ne (pe_dget hu (pv 2) (pe_ix ix_tup (pv 1) pe_int (fun _ _ => rfl)) (fun _ _ => rfl)) (pe_dget hu (pv 2) (pe_ix ix_tup (pv 1) pe_int (fun _ _ => rfl)) (fun _ _ => rfl)) (nomark _)))
        (fun _ _ _ _ _ => pv 0))))), ?_⟩
    have hlen := hp.length
    refine ⟨_, rfl, _, rfl, p, l2, q, ys, l, xs, nss, rfl, ⟨⟨dx, ht⟩, hl2⟩, hl, hx, hn, hn2, fun H1 s1 => ⟨_, rfl, ?_⟩⟩
    cases hb : isPart nss q with
    | false => exact iteT ⟨by show 1 ≤ sizeLine; decide, kE hb _ s1⟩
    | true =>
      have ok := part_ok hb
      obtain ⟨_, h60, hok⟩ := fits_iff hft
      refine iteF ⟨_, rfl, l, xs, nss, rfl, s1 _ _ hl, hx.same s1, ok.nd, hn, fun H2 d kvs s2 hd2 hv => ?_⟩
      have q2 := s2 _ _ (s1 _ _ hl2)
      have hv' : ∀ x, 0 ≤ x → x < q → valV kvs (Sum.inl x) = some (.int (pl nss x)) := fun x h0 h1 => by
        obtain ⟨g, hg, hxg⟩ := pl_at (ok.has x h0 h1)
        exact hv _ g hg x hxg
      refine ⟨_, rfl, p, CT, dx, _, _, rfl, s2 _ _ (s1 _ _ ht), T.cl, T.nb, flds_b _ _, l2, _, rfl, SqL.of q2, fun D hD => comp_ext (n := ps.length) hD (fun i => (filtR i (betwP nss ps)).map V.int) rfl (fun i hi => ?_) (fun i H4 hi sm hD4 => ?_) (fun H4 sm hD4 => ?_)⟩
      · rw [List.length_map]
        have := filtR_len i (betwP nss ps)
        exact small1000 (by omega)
      · obtain ⟨x, hxi⟩ : ∃ x, ys[i]? = some x := ⟨_, List.getElem?_eq_getElem (by omega)⟩
        obtain ⟨pr, hpr, a, rfl, hat⟩ := hp.get hxi
        have q4 := sm _ _ q2
        refine ⟨⟨_, _, SqL.of q4, hxi⟩, fun K1 K2 k1 k2 x H' y => ?_⟩
        obtain ⟨t, rfl, htn, e⟩ := y
        rw [e _ _ (SqL.of q4) hxi]
        have s5 : Same H4 (upd H4 t (.tup [.int i, .ref a])) := Same.rfl'.new htn
        have at5 := s5 _ _ (sm _ _ (s2 _ _ (s1 _ _ hat)))
        have d5 := s5 _ _ (sm _ _ hd2)
        have okp := hok pr (List.mem_of_getElem? hpr)
        unfold okPair at okp
        simp only [Bool.and_eq_true, decide_eq_true_eq] at okp
        have g1 : DGet (upd H4 t (.tup [.int i, .ref a])) d (.int pr.1) (some (.int (pl nss pr.1))) := by
          have := DGet.k (k := Sum.inl pr.1) d5
          rw [hv' pr.1 okp.1.1 okp.1.2] at this
          exact this
        have g2 : DGet (upd H4 t (.tup [.int i, .ref a])) d (.int pr.2) (some (.int (pl nss pr.2))) := by
          have := DGet.k (k := Sum.inl pr.2) d5
          rw [hv' pr.2 okp.2.1.1 okp.2.1.2] at this
          exact this
        refine ⟨t, _, rfl, SqT.of upd_same, rfl, _, _, rfl, _, _, rfl, rfl, rfl, ?_⟩
        refine ⟨_, rfl, _, rfl, a, _, _, _, rfl, rfl, SqT.of at5, atI_nat (j := 0) rfl, d, _, rfl, g1, _, rfl, _, rfl, a, _, _, _, rfl, rfl, SqT.of at5, atI_nat (j := 1) rfl, d, _, rfl, g2, rfl, _, rfl, ?_⟩
        have ep : betwP nss ps i = !decide (V.int (pl nss pr.1 : Int) = V.int (pl nss pr.2 : Int)) := by
          unfold betwP
          rw [getD_at hpr, dec_nat]
        rw [← ep]
        refine ite2 (fun h => ⟨_, rfl, k1 _ _ s5 ?_⟩) (fun h => k2 _ s5 ?_)
        · rw [filtR_succ, if_pos h, List.map_append]
          rfl
        · rw [filtR_succ, if_neg h, List.append_nil]
      · have q4 := sm _ _ q2
        refine ⟨⟨_, SqL.of q4, by rw [hlen]; exact Nat.le_refl _⟩, kQ hb H4 D ((s1.tr s2).tr sm) ?_ hD4⟩
        exact (s1.tr s2).free hD

/-! bridges_within -/
theorem inV_ints (n : Int) : ∀ ns : List Int, inV (.int n) (ns.map V.int) = ns.contains n
  | [] => rfl
  | m :: r => by
    have := inV_ints n r
    unfold inV at this ⊢
    rw [List.map_cons, List.any_cons, this, List.contains_cons]
    show ((m == n) || _) = ((n == m) || _)
    rw [Bool.beq_comm]
theorem flat_ints : ∀ ns : List Int, (ns.map V.int).all flatV = true
  | [] => rfl
  | m :: r => by
    rw [List.map_cons, List.all_cons, flat_ints r]
    rfl
def spWithin (CT CQ : Addr) : Sp := fun vs H Q E => ∃ (p l2 : Addr) (q : Int) (ys : List V) (ps : PP) (l : Addr) (ns : List Int), vs = [.ref p, .ref l] ∧ TownAt CT H p l2 q ys ∧ PV H ys ps ∧ fits q ps = true ∧ LI H l ns ∧ ns.length ≤ 1000 ∧
  (someQ ns q = true → ∀ (H' : Hp) (d : Addr), Same H H' → H d = none → LI H' d (filtR ps.length (withP ns ps)) → Q (.ref d) H') ∧ (someQ ns q = false → ∀ H', Same H H' → E (.ref CQ) none H')
theorem scWithin : FnScope ["town", "quarters"] ["town", "quarters"] (defScope sWithin) := ⟨rfl, rfl, rfl, by decide +kernel, rfl, by decide +kernel, by decide +kernel⟩
theorem ok_within {f f1 : Addr} {fd fd1 : FuncData} (T : Txt K mg CE CS CQ CP CT) (F : Fun K "bridges_within" "bridges_within" sWithin f fd)
    (G1 : FnOk P w K mg base (CXE P w) 3 f1 fd1 ["some", "quarters"] (spCheckQ CQ)) (b1 : Binds K fd1 ["some", "quarters"] []) (m1 : mg "check_some_quarters" = some (.ref f1)) (k1 : PySem.W.keepIn K (.ref f1) = true) :
    FnOk P w K mg base (CXE P w) 4 f fd ["town", "quarters"] (spWithin CT CQ) := by
  refine F.okE scWithin (fun vs H Q E h => ?_) (fun cdv A outer s H vs Q E hr h => ?_)
  · obtain ⟨p, l2, q, ys, ps, l, ns, rfl, _⟩ := h
    rfl
  · obtain ⟨p, l2, q, ys, ps, l, ns, rfl, ⟨⟨dx, ht⟩, hl2⟩, hp, hft, hl, hn, kQ, kE⟩ := h
    have lets := lets_cx (P := P) (w := w) (K := K) (mg := mg) (base := base) (N := ["town", "quarters"]) (qual := "bridges_within") (scope := defScope sWithin) (f := f) (cd := cdv) (A := A) (outer := outer) (s := s) (H := H) (E := E)
    have nd2 : ((["bridge", "ends"] : List Str) ++ (["quarters"] : List Str)).Nodup := by decide +kernel
    refine ⟨_, pss_cons (ps_expr (pe_call G1 hr (by rfl) m1 k1 b1 .nil lets.pass (pa_cons (pv 1) (pa_cons (pe_fld (pv 0) rfl) pa_nil))))
      (pss_one (ps_ret (pe_comp (own := ["bridge", "ends"]) (caps := ["quarters"]) (cs := [1]) (sc := defScope sWithin) ⟨rfl, rfl, by decide +kernel, by decide +kernel, by decide +kernel, by decide +kernel, rfl⟩ rfl
        (pi_enum (by rfl) T.enum (pa_cons (pe_fld (pv 0) rfl) pa_nil)) (fun _ _ _ _ _ => pg_tup (n := 2) rfl (pgs_cons (pg_name (i := 0) nd2 rfl (Or.inl rfl) (.inr rfl)) (pgs_cons (pg_name (i := 1) nd2 rfl (Or.inl rfl) (.inr rfl)) pgs_nil)))
        (fun _ _ _ _ _ => pf_one (pw_and (pt_cmpR op_in_seq (pe_ix ix_tup (pv 1) pe_int (fun _ _ => rfl)) (pv 2) rfl) (pw_and1 (pt_cmpR op_in_seq (pe_ix ix_tup (pv 1) pe_int (fun _ _ => rfl)) (pv 2) rfl))).pt)
        (fun _ _ _ _ _ => pv 0)))), ?_⟩
    have hlen := hp.length
    refine ⟨_, rfl, _, rfl, p, CT, dx, _, _, rfl, ht, T.cl, T.nq, flds_q _ _, l, ns, q, rfl, hl, hn, fun hb H1 s1 => ?_, kE⟩
    obtain ⟨_, h60, hok⟩ := fits_iff hft
    have q2 := s1 _ _ hl2
    refine ⟨_, rfl, p, CT, dx, _, _, rfl, s1 _ _ ht, T.cl, T.nb, flds_b _ _, l2, _, rfl, SqL.of q2, fun D hD => comp_ext (n := ps.length) hD (fun i => (filtR i (withP ns ps)).map V.int) rfl (fun i hi => ?_) (fun i H4 hi sm hD4 => ?_) (fun H4 sm hD4 => ?_)⟩
    · rw [List.length_map]
      have := filtR_len i (withP ns ps)
      exact small1000 (by omega)
    · obtain ⟨x, hxi⟩ : ∃ x, ys[i]? = some x := ⟨_, List.getElem?_eq_getElem (by omega)⟩
      obtain ⟨pr, hpr, a, rfl, hat⟩ := hp.get hxi
      have q4 := sm _ _ q2
      refine ⟨⟨_, _, SqL.of q4, hxi⟩, fun K1 K2 k1 k2 x H' y => ?_⟩
      obtain ⟨t, rfl, htn, e⟩ := y
      rw [e _ _ (SqL.of q4) hxi]
      have s5 : Same H4 (upd H4 t (.tup [.int i, .ref a])) := Same.rfl'.new htn
      have at5 := s5 _ _ (sm _ _ (s1 _ _ hat))
      have l5 : LI (upd H4 t (.tup [.int i, .ref a])) l ns := s5 _ _ (sm _ _ (s1 _ _ hl))
      refine ⟨t, _, rfl, SqT.of upd_same, rfl, _, _, rfl, _, _, rfl, rfl, rfl, ?_⟩
      refine ⟨_, rfl, a, _, _, _, rfl, rfl, SqT.of at5, atI_nat (j := 0) rfl, _, rfl, l, _, rfl, .inl (SqL.of l5), rfl, flat_ints ns, _, rfl, ?_⟩
      have e1 : (if false = true then !inV (V.int pr.1) (ns.map V.int) else inV (V.int pr.1) (ns.map V.int)) = ns.contains pr.1 := by rw [if_neg Bool.false_ne_true, inV_ints]
      rw [e1]
      have ep : withP ns ps i = (ns.contains pr.1 && ns.contains pr.2) := by
        unfold withP
        rw [getD_at hpr]
      cases hc : ns.contains pr.1 with
      | false =>
        rw [hc] at ep
        refine iteF (iteF (k2 _ s5 ?_))
        rw [filtR_succ, if_neg (by rw [ep]; exact Bool.false_ne_true), List.append_nil]
      | true =>
        rw [hc, Bool.true_and] at ep
        refine iteT ⟨_, rfl, a, _, _, _, rfl, rfl, SqT.of at5, atI_nat (j := 1) rfl, _, rfl, l, _, rfl, .inl (SqL.of l5), rfl, flat_ints ns, _, rfl, ?_⟩
        have e2 : (if false = true then !inV (V.int pr.2) (ns.map V.int) else inV (V.int pr.2) (ns.map V.int)) = ns.contains pr.2 := by rw [if_neg Bool.false_ne_true, inV_ints]
        rw [e2, ← ep]
        refine ite2 (fun h => ⟨_, rfl, k1 _ _ s5 ?_⟩) (fun h => k2 _ s5 ?_)
        · rw [filtR_succ, if_pos h, List.map_append]
          rfl
        · rw [filtR_succ, if_neg h, List.append_nil]
    · have q4 := sm _ _ q2
      exact ⟨⟨_, SqL.of q4, by rw [hlen]; exact Nat.le_refl _⟩, kQ hb H4 D (s1.tr sm) (s1.free hD) hD4⟩
end
end K05
namespace K05
open PySem L2 XM
section
variable {P : Program} {w : World} {K : PySem.W.Frag} {mg : Str → Option Value} {base : Heap} {CE CS CQ CP CT : Addr}

/-! _law_at -/
def spAt (K : PySem.W.Frag) : Sp := fun vs H Q _ => ∃ (a : Addr) (ns : List Int) (k : Nat), vs = [.ref a, .int k] ∧ SqL K H a (ns.map V.int) ∧ Q (.int (ns.getD k 0)) H
theorem scAt : FnScope ["script", "k"] ["script", "k"] (defScope sAt) := ⟨rfl, rfl, rfl, by decide +kernel, rfl, by decide +kernel, by decide +kernel⟩
theorem ok_at {f : Addr} {fd : FuncData} (T : Txt K mg CE CS CQ CP CT) (F : Fun K "_law_at" "_law_at" sAt f fd) : FnOk P w K mg base CX0 1 f fd ["script", "k"] (spAt K) := by
  refine F.ok scAt (fun vs H Q E h => ?_) (fun cdv A outer s H vs Q E hr h => ?_)
  · obtain ⟨a, ns, k, rfl, _⟩ := h
    rfl
  · obtain ⟨a, ns, k, rfl, hS, kQ⟩ := h
    refine ⟨_, pss_cons (ps_if (pt_cmpR op_lt (pv 1) (pe_callB call_len_seq (by rfl) T.len PySem.boot_len (pa_cons (pv 0) pa_nil)) (nomark _)) (pss_one (ps_ret (pe_ix ix_list (pv 0) (pv 1) (fun _ _ => rfl)))) pss_nil) (pss_one (ps_ret pe_int)), ?_⟩
    refine ⟨_, rfl, _, rfl, a, _, rfl, .inl hS, _, _, rfl, rfl, _, rfl, ?_⟩
    rw [List.length_map]
    by_cases h : k < ns.length
    · rw [decide_eq_true (show (k : Int) < (ns.length : Int) by omega)]
      refine iteT ⟨_, rfl, _, rfl, a, _, _, _, rfl, rfl, hS, atI_nat (v := .int (ns.getD k 0)) ?_, kQ⟩
      rw [List.getElem?_map, List.getD_eq_getElem?_getD, List.getElem?_eq_getElem h]
      rfl
    · rw [decide_eq_false (show ¬ (k : Int) < (ns.length : Int) by omega)]
      refine iteF ?_
      rw [List.getD_eq_getElem?_getD, List.getElem?_eq_none (by omega)] at kQ
      exact kQ

/-! _law_town -/
/-- a pair (quarters, list of pairs) stands at t -/
def spTown (K : PySem.W.Frag) : Sp := fun vs H Q _ => ∃ (a : Addr) (ns : List Int), vs = [.ref a] ∧ SqL K H a (ns.map V.int) ∧
  ∀ (t l : Addr) (q : Int) (xs : List V) (ps : PP) (H' : Hp), H' t = some (.tup [.int q, .ref l]) → H' l = some (.lst xs) → PV H' xs ps → fits q ps = true → Same H H' → Q (.ref t) H'
theorem scTown : FnScope ["script", "head", "quarters", "pairs", "cell", "one"] ["script"] (defScope sTown) := ⟨rfl, rfl, rfl, by decide +kernel, rfl, by decide +kernel, by decide +kernel⟩
theorem cut_ints (ns : List Int) (lo hi : Option Int) : ∃ cs : List Int, cutV (ns.map V.int) lo hi = cs.map V.int ∧ cs.length ≤ HT.sIx ns.length ns.length hi - HT.sIx ns.length 0 lo := by
  unfold cutV
  rw [List.length_map, List.map_drop.symm, List.map_take.symm]
  exact ⟨_, rfl, by rw [List.length_take]; exact Nat.min_le_left _ _⟩
/-- the end of it: if quarters > 1: for ..; return (quarters, pairs) -/
theorem town_tail {a l : Addr} {ns : List Int} {H : Hp} {Q : VK} {hd q : Int} (T : Txt K mg CE CS CQ CP CT) (hS : SqL K H a (ns.map V.int))
    (kQ : ∀ (t l : Addr) (q : Int) (xs : List V) (ps : PP) (H' : Hp), H' t = some (.tup [.int q, .ref l]) → H' l = some (.lst xs) → PV H' xs ps → fits q ps = true → Same H H' → Q (.ref t) H')
    (h1 : 1 ≤ q) (h2 : q ≤ 24) (hl : H l = none) :
    tSeq (tIfS (tTest (tOp (rI0 fun i j => .bl (decide (j < i))) (tVar 2) (tC (.int 1))))
      (tFor (iList K (tSl (rSlL K) (tVar 0) (tPart (tC (.int 1))) (tPart (tC (.int 61))))) (gName 4)
        (tSeq (tAsg (tOp (rI (fun _ j => 0 < j) fun i j => .int (i % j)) (tVar 4) (tVar 2)) (gName 5))
          (tDrop (tBM K "list" rAppend (tVar 3) (tCons (tTup (tCons (tVar 5) (tCons (tOp (rI (fun _ j => 0 < j) fun i j => .int (i % j)) (tOp (rI0 fun i j => .int (i + j)) (tOp (rI0 fun i j => .int (i + j)) (tVar 5) (tC (.int 1)))
            (tOp (rI (fun _ j => 0 < j) fun i j => .int (i % j)) (tOp (rI CDiv fun i j => .int (i / j)) (tVar 4) (tVar 2)) (tOp (rI0 fun i j => .int (i - j)) (tVar 2) (tC (.int 1))))) (tVar 2)) tNil))) tNil))))) tNext)
      (tRet (tTup (tCons (tVar 2) (tCons (tVar 3) tNil)))) { nx := fun _ H' => Q .non H', rt := Q }
      [some (.ref a), some (.int hd), some (.int q), some (.ref l), none, none] (upd H l (.lst [])) := by
  have s0 : Same H (upd H l (.lst [])) := fun b o e => by rw [upd_ne (ne_of_none e hl)]; exact e
  refine ⟨_, rfl, _, _, rfl, rfl, _, rfl, ?_⟩
  refine ite2 (fun hq => ?_) (fun hq => ?_)
  · have hq1 : 1 < q := of_decide_eq_true hq
    refine ⟨_, rfl, _, rfl, _, rfl, a, _, rfl, s0.seq hS, fun ls hls => ?_⟩
    obtain ⟨cs, ecs, lcs⟩ := cut_ints ns (some 1) (some 61)
    rw [ecs]
    have lc : cs.length ≤ 60 := by
      refine Nat.le_trans lcs ?_
      rw [show (some (61 : Int)) = some ((61 : Nat) : Int) from rfl, show (some (1 : Int)) = some ((1 : Nat) : Int) from rfl, HT.sIx_nat, HT.sIx_nat]
      omega
    have nl : l ≠ ls := ne_of_none upd_same hls
    have nls : H ls = none := s0.free hls
    refine ⟨ls, rfl, ⟨_, SqL.of upd_same⟩, for_list (K := K) (a := ls) (xs := cs.map V.int) (fun i σ H2 => ∃ xs u v, σ = [some (.ref a), some (.int hd), some (.int q), some (.ref l), u, v] ∧ H2 l = some (.lst xs) ∧
      PV H2 xs ((cs.take i).map (mkPair q)) ∧ H2 ls = some (.lst (cs.map V.int)) ∧ Same H H2)
      ⟨[], none, none, rfl, by rw [upd_ne nl]; exact upd_same, .nil, upd_same, fun b o e => by rw [upd_ne (ne_of_none e nls)]; exact s0 b o e⟩ (fun i σ H2 _ ⟨_, _, _, _, _, _, z, _⟩ => SqL.of z) ?_ ?_⟩
    · rintro i x σ H2 hi ⟨xs, u, v, rfl, hxl, hxv, hxs, hsm⟩
      rw [List.getElem?_map] at hi
      obtain ⟨c, hc, rfl⟩ := Option.map_eq_some_iff.mp hi
      have il : i < cs.length := (List.getElem?_eq_some_iff.mp hc).1
      have xl : xs.length = i := by rw [hxv.length, List.length_map, List.length_take]; omega
      refine ⟨_, rfl, _, rfl, _, _, rfl, rfl, (by show (0 : Int) < q; omega), ?_⟩
      refine ⟨_, rfl, .inl ⟨rfl, _, SqL.of hxl⟩, _, rfl, _, rfl, _, _, rfl, rfl, _, rfl, _, rfl, _, _, rfl, rfl, ⟨by omega, by omega⟩, _, rfl, _, _, rfl, rfl, _, _, rfl, rfl, (by show (0 : Int) < q - 1; omega), _, _, rfl, rfl, _, rfl, _, _, rfl, rfl, (by show (0 : Int) < q; omega), (by show 2 ≤ sizeLine; decide), fun t ht => ?_⟩
      have ntl : l ≠ t := ne_of_none hxl ht
      have nts : ls ≠ t := ne_of_none hxs ht
      refine ⟨l, xs, _, rfl, rfl, (by rw [upd_ne ntl]; exact hxl), small1000 (by omega), ?_⟩
      have et : cs.take (i + 1) = cs.take i ++ [c] := by
        rw [List.take_add_one, hc]
        rfl
      have nlls : ls ≠ l := Ne.symm nl
      have up : ∀ b o, H2 b = some o → b ≠ l → (upd (upd H2 t (.tup [.int (c % q), .int ((c % q + 1 + c / q % (q - 1)) % q)])) l (.lst (xs ++ [V.ref t]))) b = some o := fun b o e hb => by
        rw [upd_ne hb, upd_ne (ne_of_none e ht)]
        exact e
      refine ⟨xs ++ [V.ref t], _, _, rfl, upd_same, ?_, up ls _ hxs nlls, fun b o e => up b o (hsm b o e) (ne_of_none e hl)⟩
      rw [et, List.map_append]
      refine All2.append (hxv.mono fun b ys e => up b _ e (ne_of e hxl (by intro z; cases z))) (.cons ⟨t, rfl, ?_⟩ .nil)
      rw [upd_ne (Ne.symm ntl), upd_same]
      rfl
    · rintro σ H2 ⟨xs, u, v, rfl, hxl, hxv, hxs, hsm⟩
      rw [List.length_map, List.take_length] at hxv
      refine ⟨_, rfl, _, rfl, (by show 2 ≤ sizeLine; decide), fun t ht => ?_⟩
      have up : Same H2 (upd H2 t (.tup [.int q, .ref l])) := fun b o e => by rw [upd_ne (ne_of_none e ht)]; exact e
      refine kQ t l q xs _ _ upd_same (up _ _ hxl) (hxv.same up) ?_ (hsm.trans up)
      have := town_fits q h1 h2 cs lc
      unfold townP at this
      rw [if_pos hq1] at this
      exact this
  · refine ⟨_, rfl, _, rfl, (by show 2 ≤ sizeLine; decide), fun t ht => ?_⟩
    have up : Same (upd H l (.lst [])) (upd (upd H l (.lst [])) t (.tup [.int q, .ref l])) := fun b o e => by rw [upd_ne (ne_of_none e ht)]; exact e
    refine kQ t l q [] [] _ upd_same (up _ _ upd_same) .nil ?_ (s0.trans up)
    have := town_fits q h1 h2 [] (by decide)
    unfold townP at this
    simpa using this
theorem ok_town {f f1 : Addr} {fd fd1 : FuncData} (T : Txt K mg CE CS CQ CP CT) (F : Fun K "_law_town" "_law_town" sTown f fd) (G1 : FnOk P w K mg base CX0 1 f1 fd1 ["script", "k"] (spAt K)) (b1 : Binds K fd1 ["script", "k"] []) (m1 : mg "_law_at" = some (.ref f1)) (k1 : PySem.W.keepIn K (.ref f1) = true) :
    FnOk P w K mg base CX0 2 f fd ["script"] (spTown K) := by
  refine F.ok scTown (fun vs H Q E h => ?_) (fun cdv A outer s H vs Q E hr h => ?_)
  · obtain ⟨a, ns, rfl, _⟩ := h
    rfl
  · obtain ⟨a, ns, rfl, hS, kQ⟩ := h
    refine ⟨_, pss_cons (ps_set (i := 1) scTown.nd rfl (Or.inl rfl) (pe_call G1 hr rfl m1 k1 b1 .nil pass0 (pa_cons (pv 0) (pa_cons pe_int pa_nil))))
      (pss_cons (ps_set (i := 2) scTown.nd rfl (Or.inl rfl) (pe_op op_add pe_int (pe_op op_mod (pv 1) pe_int)))
      (pss_cons (ps_if (pt_cmpR op_eq (pe_op op_mod (pe_op op_fdiv (pv 1) pe_int) pe_int) pe_int (nomark _)) (pss_one (ps_set (i := 2) scTown.nd rfl (Or.inl rfl) (pe_op op_add pe_int (pe_op op_mod (pe_op op_fdiv (pv 1) pe_int) pe_int)))) pss_nil)
      (pss_cons (ps_set (i := 3) scTown.nd rfl (Or.inl rfl) (pe_lst pa_nil))
      (pss_cons (ps_if (pt_cmpR op_gt (pv 2) pe_int (nomark _)) (pss_one (ps_for PassesOwn.never rfl (pi_list (pe_slice sl_list (pv 0) (po_some pe_int) (po_some pe_int))) (pg_name (i := 4) scTown.nd rfl (Or.inl rfl))
        (pss_cons (ps_set (i := 5) scTown.nd rfl (Or.inl rfl) (pe_op op_mod (pv 4) (pv 2)))
        (pss_one (ps_expr (pe_bm PySem.F.plainAttrs_list PySem.F.slot_list_append PySem.F.type_list_append mt_append (pv 3) (pa_cons (pe_tup (pa_cons (pv 5) (pa_cons (pe_op op_mod (pe_op op_add (pe_op op_add (pv 5) pe_int) (pe_op op_mod (pe_op op_fdiv (pv 4) (pv 2)) (pe_op op_sub (pv 2) pe_int))) (pv 2)) pa_nil))) pa_nil))))))) pss_nil)
      (pss_one (ps_ret (pe_tup (pa_cons (pv 2) (pa_cons (pv 3) pa_nil))))))))), ?_⟩
    -- head = _law_at(script, 0)
    refine ⟨_, rfl, a, ns, 0, rfl, hS, ?_⟩
    generalize ns.getD 0 0 = hd
    -- quarters = 1 + head % 7
    refine ⟨_, rfl, _, _, rfl, rfl, (by show (0 : Int) < 7; decide), _, _, rfl, rfl, ?_⟩
    -- if head // 7 % 5 == 1
    refine ⟨_, rfl, _, _, rfl, rfl, ⟨by decide, by decide⟩, _, _, rfl, rfl, (by show (0 : Int) < 5; decide), rfl, _, rfl, ?_⟩
    refine ite2 (fun _ => ?_) (fun _ => ?_)
    · refine ⟨_, rfl, _, _, rfl, rfl, ⟨by decide, by decide⟩, _, _, rfl, rfl, (by show (0 : Int) < 24; decide), _, _, rfl, rfl, ?_⟩
      have h1 : 1 ≤ 1 + hd / 35 % 24 := by omega
      have h2 : 1 + hd / 35 % 24 ≤ 24 := by omega
      refine ⟨by show 0 ≤ sizeLine; exact Nat.zero_le _, fun l hl => ?_⟩
      exact town_tail T hS kQ h1 h2 hl
    · have h1 : 1 ≤ 1 + hd % 7 := by omega
      have h2 : 1 + hd % 7 ≤ 24 := by omega
      refine ⟨by show 0 ≤ sizeLine; exact Nat.zero_le _, fun l hl => ?_⟩
      exact town_tail T hS kQ h1 h2 hl
end
end K05
namespace L2
open PySem PySem.Spec PyProof.Rows
/-- a statement, by what holds behind it -/
def tMid (t : TS) : TS := fun D σ H => ∃ M : St → Hp → Prop, (∀ σ' H', M σ' H' → D.nx σ' H') ∧ t { D with nx := M } σ H
theorem ps_mid {X : Cx} {st : Stmt} {t : TS} (h : PS X st t) : PS X st (tMid t) := by
  rintro pins s σ H D I ⟨M, k, q⟩
  refine thn (h pins s σ H _ I q) fun f s1 z => ?_
  cases f with
  | next =>
    obtain ⟨σ', H', J, m⟩ := z
    exact ⟨σ', H', J, k σ' H' m⟩
  | brk => exact z
  | cont => exact z
  | ret u => exact z
theorem atI_all {xs : List V} {R : V → Prop} (h : ∀ x ∈ xs, R x) {i : Int} (h0 : 0 ≤ i) (h1 : i < xs.length) : ∃ v, atI xs i = some v ∧ R v := by
  have hi : i.toNat < xs.length := by omega
  refine ⟨xs[i.toNat], ?_, h _ (List.getElem_mem hi)⟩
  have e := atI_nat (xs := xs) (j := i.toNat) (List.getElem?_eq_getElem hi)
  rwa [show ((i.toNat : Nat) : Int) = i by omega] at e
theorem all5 {R : V → Prop} {a b c d e : V} (h1 : R a) (h2 : R b) (h3 : R c) (h4 : R d) (h5 : R e) : ∀ x ∈ [a, b, c, d, e], R x := by
  intro x hx
  simp only [List.mem_cons, List.not_mem_nil, or_false] at hx
  rcases hx with rfl | rfl | rfl | rfl | rfl <;> assumption
end L2
namespace K05
open PySem L2 XM

/-! plain mathematics: rising -/
theorem rising_iff : ∀ l : List Int, rising l = true ↔ l.Pairwise (· < ·)
  | [] => by simp [rising]
  | [a] => by simp [rising]
  | a :: b :: r => by
    have ih := rising_iff (b :: r)
    have e : rising (a :: b :: r) = (decide (a < b) && rising (b :: r)) := rfl
    have pc : (a :: b :: r).Pairwise (· < ·) ↔ (∀ x ∈ b :: r, a < x) ∧ (b :: r).Pairwise (· < ·) := List.pairwise_cons
    rw [e, Bool.and_eq_true, decide_eq_true_eq, ih, pc]
    constructor
    · rintro ⟨h1, h2⟩
      refine ⟨fun x hx => ?_, h2⟩
      rcases List.mem_cons.mp hx with rfl | hx
      · exact h1
      · have := (List.pairwise_cons.mp h2).1 x hx
        omega
    · rintro ⟨h1, h2⟩
      exact ⟨h1 b List.mem_cons_self, h2⟩
theorem risesB_iff {l : List Int} {m : Int} : risesB l m = true ↔ l.Pairwise (· < ·) ∧ ∀ x ∈ l, 0 ≤ x ∧ x < m := by
  unfold risesB
  rw [Bool.and_eq_true, rising_iff, List.all_eq_true]
  exact and_congr_right fun _ => ⟨fun h x hx => inR_iff.mp (h x hx), fun h x hx => inR_iff.mpr (h x hx)⟩
def riseFrom (a m : Int) : List Int → Bool
  | [] => true
  | n :: r => (decide (a < n) && decide (n < m)) && riseFrom n m r
theorem riseFrom_iff {m : Int} : ∀ {l : List Int} {a : Int}, riseFrom a m l = true ↔ l.Pairwise (· < ·) ∧ ∀ x ∈ l, a < x ∧ x < m
  | [], a => by simp [riseFrom]
  | n :: r, a => by
    have ih := @riseFrom_iff m r n
    unfold riseFrom
    rw [Bool.and_eq_true, Bool.and_eq_true, decide_eq_true_eq, decide_eq_true_eq, ih, List.pairwise_cons]
    constructor
    · rintro ⟨⟨h1, h2⟩, h3, h4⟩
      refine ⟨⟨fun x hx => (h4 x hx).1, h3⟩, fun x hx => ?_⟩
      rcases List.mem_cons.mp hx with rfl | hx
      · exact ⟨h1, h2⟩
      · have := h4 x hx
        omega
    · rintro ⟨⟨h1, h2⟩, h3⟩
      exact ⟨h3 n List.mem_cons_self, h2, fun x hx => ⟨h1 x hx, (h3 x (List.mem_cons_of_mem _ hx)).2⟩⟩
theorem risesB_from {l : List Int} {m : Int} : risesB l m = riseFrom (-1) m l := by
  rw [Bool.eq_iff_iff, risesB_iff, riseFrom_iff]
  exact and_congr_right fun _ => ⟨fun h x hx => by have := h x hx; omega, fun h x hx => by have := h x hx; omega⟩
theorem bad_odd {a b : List Int} {o m : Int} (h : ¬ (0 ≤ o ∧ o < m)) : risesB (a ++ [o] ++ b) m = false := by
  refine Bool.eq_false_iff.mpr fun z => h ((risesB_iff.mp z).2 o ?_)
  simp
theorem bad_pair {a b : List Int} {x y m : Int} (h : ¬ x < y) : risesB (a ++ (x :: y :: b)) m = false := by
  refine Bool.eq_false_iff.mpr fun z => h ?_
  have := (List.pairwise_append.mp (risesB_iff.mp z).1).2.1
  exact (List.pairwise_cons.mp this).1 y List.mem_cons_self

section
variable {P : Program} {w : World} {K : PySem.W.Frag} {mg : Str → Option Value} {base : Heap} {CE CS CQ CP CT : Addr}
theorem kit_same (t : Value) : PySem.W.kitOne K t t = some true := by
  unfold PySem.W.kitOne
  rw [if_pos (by simp)]
theorem kit_ib : PySem.W.kitOne K (.type "int") (.type "bool") = some false := by with_unfolding_all rfl

/-! _law_rising -/
def spRising : Sp := fun vs H Q _ => ∃ (l : Addr) (ns : List Int) (m : Int), vs = [.ref l, .int m] ∧ LI H l ns ∧ Q (.bl (risesB ns m)) H
theorem scRising : FnScope ["found", "most", "last", "number"] ["found", "most"] (defScope sRising) := ⟨rfl, rfl, rfl, by decide +kernel, rfl, by decide +kernel, by decide +kernel⟩
theorem ok_rising {f : Addr} {fd : FuncData} (T : Txt K mg CE CS CQ CP CT) (F : Fun K "_law_rising" "_law_rising" sRising f fd) : FnOk P w K mg base CX0 1 f fd ["found", "most"] spRising := by
  refine F.ok scRising (fun vs H Q E h => ?_) (fun cdv A outer s H vs Q E hr h => ?_)
  · obtain ⟨l, ns, m, rfl, _⟩ := h
    rfl
  · obtain ⟨l, ns, m, rfl, hl, kQ⟩ := h
    refine ⟨_, pss_cons (ps_if (pt_not (pt_val (pe_callB call_isi (by rfl) T.isi boot_isi (pa_cons (pv 0) (pa_cons (pe_bltn (v := .ty "list") (by rfl) T.list bt_list (by rfl)) pa_nil))))) (pss_one (ps_ret pe_bl)) pss_nil)
      (pss_cons (ps_set (i := 2) scRising.nd rfl (Or.inl rfl) (pe_un un_neg pe_int))
      (pss_cons (ps_for PassesOwn.never rfl (pi_list (pv 0)) (pg_name (i := 3) scRising.nd rfl (Or.inl rfl))
        (pss_cons (ps_if (pw_or (pt_not (pt_val (pe_callB call_isi (by rfl) T.isi boot_isi (pa_cons (pv 3) (pa_cons (pe_bltn (v := .ty "int") (by rfl) T.int bt_int (by rfl)) pa_nil)))))
          (pw_or (pt_val (pe_callB call_isi (by rfl) T.isi boot_isi (pa_cons (pv 3) (pa_cons (pe_bltn (v := .ty "bool") (by rfl) T.bool bt_bool (by rfl)) pa_nil)))) (pw_or (pt_cmpR op_le (pv 3) (pv 2) (nomark _)) (pw_or1 (pt_cmpR op_ge (pv 3) (pv 1) (nomark _)))))).pt (pss_one (ps_ret pe_bl)) pss_nil)
        (pss_one (ps_set (i := 2) scRising.nd rfl (Or.inl rfl) (pv 3)))))
      (pss_one (ps_ret pe_bl)))), ?_⟩
    rw [risesB_from] at kQ
    refine ⟨_, rfl, _, _, _, _, _, rfl, rfl, .lst hl, kit_same _, _, rfl, ?_⟩
    refine iteF ⟨_, rfl, ?_⟩
    refine ⟨_, rfl, l, rfl, ⟨_, SqL.of hl⟩, for_list (K := K) (a := l) (xs := ns.map V.int) (fun i σ H2 => H2 = H ∧ ∃ last u, σ = [some (.ref l), some (.int m), some (.int last), u] ∧ riseFrom (-1) m ns = riseFrom last m (ns.drop i))
      ⟨rfl, _, _, rfl, rfl⟩ (fun i σ H2 _ ⟨e, _⟩ => by subst e; exact SqL.of hl) ?_ ?_⟩
    · rintro i x σ H2 hi ⟨rfl, last, u, rfl, er⟩
      rw [List.getElem?_map] at hi
      obtain ⟨n, hn, rfl⟩ := Option.map_eq_some_iff.mp hi
      have hil := (List.getElem?_eq_some_iff.mp hn).1
      have ed : ns.drop i = n :: ns.drop (i + 1) := by
        rw [List.drop_eq_getElem_cons hil]
        congr 1
        exact (List.getElem?_eq_some_iff.mp hn).2
      rw [ed, show riseFrom last m (n :: ns.drop (i + 1)) = ((decide (last < n) && decide (n < m)) && riseFrom n m (ns.drop (i + 1))) from rfl] at er
      refine ⟨_, rfl, _, _, _, _, _, rfl, rfl, .int n, kit_same _, _, rfl, ?_⟩
      refine iteF ⟨_, rfl, _, _, _, _, _, rfl, rfl, .int n, kit_ib, _, rfl, ?_⟩
      refine iteF ⟨_, rfl, _, rfl, _, _, rfl, rfl, _, rfl, ?_⟩
      by_cases h1 : n ≤ last
      · rw [decide_eq_true h1]
        refine iteT (iteT ?_)
        rw [decide_eq_false (show ¬ last < n by omega)] at er
        rw [er] at kQ
        exact kQ
      · rw [decide_eq_false h1]
        refine iteF ⟨_, rfl, _, rfl, _, _, rfl, rfl, _, rfl, ?_⟩
        by_cases h2 : m ≤ n
        · rw [decide_eq_true h2]
          refine iteT ?_
          rw [decide_eq_false (show ¬ n < m by omega), Bool.and_false] at er
          rw [er] at kQ
          exact kQ
        · rw [decide_eq_false h2]
          refine iteF ⟨_, rfl, rfl, _, _, rfl, ?_⟩
          rw [decide_eq_true (show last < n by omega), decide_eq_true (show n < m by omega)] at er
          exact er
    · rintro σ H2 ⟨rfl, last, u, rfl, er⟩
      rw [List.length_map, List.drop_length] at er
      rw [er] at kQ
      exact kQ

/-! ints as data -/
theorem den_ints {H : Hp} {l : Addr} {ns : List Int} (hl : LI H l ns) : Den K H (.ref l) (.list (ns.map .int)) := by
  refine .lst (SqL.of hl) (by rw [List.length_map, List.length_map]) fun i x d h1 h2 => ?_
  rw [List.getElem?_map] at h1 h2
  cases e : ns[i]? with
  | none => rw [e] at h1; cases h1
  | some n =>
    rw [e] at h1 h2
    cases h1
    cases h2
    exact .int _
theorem lay_ints : ∀ ns : List Int, PyData.canLayAll0 (ns.map .int) = true ∧ PyData.depthAll (ns.map .int) = 0
  | [] => by simp [PyData.canLayAll0, PyData.depthAll]
  | p :: ps => by
    obtain ⟨h1, h2⟩ := lay_ints ps
    rw [List.map_cons]
    simp [PyData.canLayAll0, PyData.depthAll, PyData.canLay0, PyData.depth, h1, h2]
theorem sh_ints (ns : List Int) : SeqAt.shaped (.list (ns.map .int)) = true := by
  have h := lay_ints ns
  unfold SeqAt.shaped
  rw [Bool.and_eq_true]
  refine ⟨by simp [PyData.canLay0, h.1], decide_eq_true ?_⟩
  have := h.2
  simp only [PyData.depth]
  omega
theorem eqv_ints : ∀ ns ms : List Int, PyData.eqvAll (ns.map .int) (ms.map .int) = decide (ns = ms)
  | [], [] => rfl
  | [], m :: ms => by simp [PyData.eqvAll]
  | n :: ns, [] => by simp [PyData.eqvAll]
  | n :: ns, m :: ms => by
    have ih := eqv_ints ns ms
    rw [List.map_cons, List.map_cons, PyData.eqvAll, ih]
    rw [Bool.eq_iff_iff]
    simp [PyData.eqv]
theorem eqv_lints (ns ms : List Int) : PyData.eqv (.list (ns.map .int)) (.list (ms.map .int)) = decide (ns = ms) := by
  rw [← eqv_ints]
  simp [PyData.eqv]
end
end K05
namespace L2
open PySem PySem.Spec PyProof.Rows
theorem cut_take (xs : List V) (k : Nat) : cutV xs none (some (k : Int)) = xs.take k := by
  unfold cutV
  rw [HT.sIx_nat]
  show (xs.drop 0).take (min k xs.length - 0) = _
  rw [List.drop_zero, Nat.sub_zero, ← List.take_eq_take_min]
theorem cut_drop (xs : List V) (k : Nat) : cutV xs (some (k : Int)) none = xs.drop k := by
  unfold cutV
  rw [HT.sIx_nat]
  show (xs.drop (min k xs.length)).take (xs.length - min k xs.length) = _
  rw [List.take_of_length_le (by rw [List.length_drop]; exact Nat.le_refl _)]
  by_cases h : k ≤ xs.length
  · rw [Nat.min_eq_left h]
  · rw [Nat.min_eq_right (by omega), List.drop_length, List.drop_eq_nil_of_le (by omega)]
/-- xs[:i] + [..] + xs[j:] -/
theorem cat_read {K : PySem.W.Frag} {σ : St} {H : Hp} {Q : VK} {l : Addr} {xs ms : List V} {tv te1 te2 : TE} {tm : TA} {i j : Nat} (hl : H l = some (.lst xs)) (hz : xs.length ≤ 1000) (hms : ms.length ≤ 1000)
    (hv : ∀ H1 (Q1 : VK), Same H H1 → Q1 (.ref l) H1 → tv σ H1 Q1) (h1 : ∀ H1 (Q1 : VK), Same H H1 → Q1 (.int (i : Int)) H1 → te1 σ H1 Q1) (h2 : ∀ H1 (Q1 : VK), Same H H1 → Q1 (.int (j : Int)) H1 → te2 σ H1 Q1) (hm : ∀ H1 (Q1 : List V → Hp → Prop), Same H H1 → Q1 ms H1 → tm σ H1 Q1)
    (k : ∀ (H' : Hp) (d : Addr), Same H H' → H d = none → H' d = some (.lst (xs.take i ++ ms ++ xs.drop j)) → Q (.ref d) H') :
    tOp rCat (tOp rCat (tSl (rSlL K) tv tNoPart (tPart te1)) (tLst tm)) (tSl (rSlL K) tv (tPart te2) tNoPart) σ H Q := by
  have li : (xs.take i).length ≤ 1000 := by rw [List.length_take]; omega
  have lj : (xs.drop j).length ≤ 1000 := by rw [List.length_drop]; omega
  refine hv H _ Same.rfl' (h1 H _ Same.rfl' ⟨i, rfl, l, xs, rfl, SqL.of hl, fun p1 hp1 => ?_⟩)
  rw [cut_take]
  have s1 : Same H (upd H p1 (.lst (xs.take i))) := Same.rfl'.new hp1
  refine hm _ _ s1 ⟨Nat.le_of_lt (small1000 hms), fun p2 hp2 => ?_⟩
  have s2 := s1.tr (Same.rfl'.new (o := .lst ms) hp2)
  have q1 : (upd (upd H p1 (.lst (xs.take i))) p2 (.lst ms)) p1 = some (.lst (xs.take i)) := by rw [upd_ne (ne_of_none upd_same hp2)]; exact upd_same
  refine ⟨p1, p2, _, _, rfl, rfl, q1, upd_same, ?_, fun p3 hp3 => ?_⟩
  · refine Nat.le_trans (m := 2000) (by omega) (by rw [sizeLine_eq]; decide)
  have s3 := s2.tr (Same.rfl'.new (o := .lst (xs.take i ++ ms)) hp3)
  refine hv _ _ s3 (h2 _ _ s3 ⟨j, rfl, l, xs, rfl, SqL.of (s3 _ _ hl), fun p4 hp4 => ?_⟩)
  rw [cut_drop]
  have s4 := s3.tr (Same.rfl'.new (o := .lst (xs.drop j)) hp4)
  refine ⟨p3, p4, _, _, rfl, rfl, by rw [upd_ne (ne_of_none upd_same hp4)]; exact upd_same, upd_same, ?_, fun p5 hp5 => ?_⟩
  · rw [List.length_append]
    refine Nat.le_trans (m := 3000) (by omega) (by rw [sizeLine_eq]; decide)
  exact k _ p5 (s4.tr (Same.rfl'.new hp5)) (s4.free hp5) upd_same
/-- xs[:i] + xs[j:] -/
theorem cat_read2 {K : PySem.W.Frag} {σ : St} {H : Hp} {Q : VK} {l : Addr} {xs : List V} {tv te1 te2 : TE} {i j : Nat} (hl : H l = some (.lst xs)) (hz : xs.length ≤ 1000)
    (hv : ∀ H1 (Q1 : VK), Same H H1 → Q1 (.ref l) H1 → tv σ H1 Q1) (h1 : ∀ H1 (Q1 : VK), Same H H1 → Q1 (.int (i : Int)) H1 → te1 σ H1 Q1) (h2 : ∀ H1 (Q1 : VK), Same H H1 → Q1 (.int (j : Int)) H1 → te2 σ H1 Q1)
    (k : ∀ (H' : Hp) (d : Addr), Same H H' → H d = none → H' d = some (.lst (xs.take i ++ xs.drop j)) → Q (.ref d) H') :
    tOp rCat (tSl (rSlL K) tv tNoPart (tPart te1)) (tSl (rSlL K) tv (tPart te2) tNoPart) σ H Q := by
  have li : (xs.take i).length ≤ 1000 := by rw [List.length_take]; omega
  have lj : (xs.drop j).length ≤ 1000 := by rw [List.length_drop]; omega
  refine hv H _ Same.rfl' (h1 H _ Same.rfl' ⟨i, rfl, l, xs, rfl, SqL.of hl, fun p1 hp1 => ?_⟩)
  rw [cut_take]
  have s1 : Same H (upd H p1 (.lst (xs.take i))) := Same.rfl'.new hp1
  refine hv _ _ s1 (h2 _ _ s1 ⟨j, rfl, l, xs, rfl, SqL.of (s1 _ _ hl), fun p4 hp4 => ?_⟩)
  rw [cut_drop]
  have s4 := s1.tr (Same.rfl'.new (o := .lst (xs.drop j)) hp4)
  refine ⟨p1, p4, _, _, rfl, rfl, by rw [upd_ne (ne_of_none upd_same hp4)]; exact upd_same, upd_same, ?_, fun p5 hp5 => ?_⟩
  · refine Nat.le_trans (m := 2000) (by omega) (by rw [sizeLine_eq]; decide)
  exact k _ p5 (s4.tr (Same.rfl'.new hp5)) (s4.free hp5) upd_same
end L2
namespace K05
open PySem L2 XM
section
variable {P : Program} {w : World} {K : PySem.W.Frag} {mg : Str → Option Value} {base : Heap} {CE CS CQ CP CT : Addr}
theorem pow60 : (0 : Int) < 10 ^ (60 : Int).toNat := by decide +kernel
theorem cpow : CPow 10 60 := ⟨by decide, by decide, by decide⟩

/-! _law_spoiled -/
def spSpoiled : Sp := fun vs H Q _ => ∃ (l : Addr) (ns : List Int) (m c : Int), vs = [.ref l, .int m, .int c] ∧ LI H l ns ∧ ns.length ≤ 900 ∧
  ∀ (H' : Hp) (d : Addr) (ns' : List Int), Same H H' → H d = none → LI H' d ns' → ns'.length ≤ ns.length + 1 → (risesB ns m = true → risesB ns' m = false) → Q (.ref d) H'
theorem scSpoiled : FnScope ["numbers", "most", "cell", "at", "odd"] ["numbers", "most", "cell"] (defScope sSpoiled) := ⟨rfl, rfl, rfl, by decide +kernel, rfl, by decide +kernel, by decide +kernel⟩
theorem ok_spoiled {f : Addr} {fd : FuncData} (T : Txt K mg CE CS CQ CP CT) (F : Fun K "_law_spoiled" "_law_spoiled" sSpoiled f fd) : FnOk P w K mg base CX0 1 f fd ["numbers", "most", "cell"] spSpoiled := by
  refine F.ok scSpoiled (fun vs H Q E h => ?_) (fun cdv A outer s H vs Q E hr h => ?_)
  · obtain ⟨l, ns, m, c, rfl, _⟩ := h
    rfl
  · obtain ⟨l, ns, m, c, rfl, hl, hn, kQ⟩ := h
    have hu := hr.units
    refine ⟨_, pss_cons (ps_set (i := 3) scSpoiled.nd rfl (Or.inl rfl) (pe_op op_mod (pv 2) (pe_op op_add (pe_callB call_len_seq (by rfl) T.len PySem.boot_len (pa_cons (pv 0) pa_nil)) pe_int)))
      (pss_cons (ps_set (i := 4) scSpoiled.nd rfl (Or.inl rfl) (pe_ix ix_list (pe_lst (pa_cons (pe_un un_neg pe_int) (pa_cons (pv 1) (pa_cons (pe_op op_add (pv 1) pe_int) (pa_cons (pe_op op_add (pv 1) (pe_op op_mod (pv 2) (pe_op op_pow pe_int pe_int)))
        (pa_cons (pe_op op_sub (pe_un un_neg pe_int) (pe_op op_mod (pv 2) (pe_op op_pow pe_int pe_int))) pa_nil)))))) (pe_op op_mod (pe_op op_fdiv (pv 2) pe_int) pe_int) (fun _ _ => rfl)))
      (pss_cons (ps_if (pw_or (pt_cmpR op_eq (pe_op op_mod (pe_op op_fdiv (pv 2) pe_int) pe_int) pe_int (nomark _)) (pw_or1 (pt_cmpR (op_eqD hu) (pv 0) (pe_lst pa_nil) (nomark _)))).pt
        (pss_one (ps_ret (pe_op op_cat (pe_op op_cat (pe_slice sl_list (pv 0) po_none (po_some (pv 3))) (pe_lst (pa_cons (pv 4) pa_nil))) (pe_slice sl_list (pv 0) (po_some (pv 3)) po_none)))) pss_nil)
      (pss_cons (ps_set (i := 3) scSpoiled.nd rfl (Or.inl rfl) (pe_op op_mod (pv 2) (pe_callB call_len_seq (by rfl) T.len PySem.boot_len (pa_cons (pv 0) pa_nil))))
      (pss_cons (ps_if (pw_or (pt_cmpR op_eq (pe_op op_mod (pe_op op_fdiv (pv 2) pe_int) pe_int) pe_int (nomark _)) (pw_or1 (pt_cmpR op_eq (pe_callB call_len_seq (by rfl) T.len PySem.boot_len (pa_cons (pv 0) pa_nil)) pe_int (nomark _)))).pt
        (pss_one (ps_ret (pe_op op_cat (pe_op op_cat (pe_slice sl_list (pv 0) po_none (po_some (pv 3))) (pe_lst (pa_cons (pe_ix ix_list (pv 0) (pv 3) (fun _ _ => rfl)) pa_nil))) (pe_slice sl_list (pv 0) (po_some (pv 3)) po_none)))) pss_nil)
      (pss_cons (ps_set (i := 3) scSpoiled.nd rfl (Or.inl rfl) (pe_callB (call_max2 rfl) (by rfl) T.max boot_max (pa_cons (pv 3) (pa_cons pe_int pa_nil))))
      (pss_one (ps_ret (pe_op op_cat (pe_op op_cat (pe_slice sl_list (pv 0) po_none (po_some (pe_op op_sub (pv 3) pe_int))) (pe_lst (pa_cons (pe_ix ix_list (pv 0) (pv 3) (fun _ _ => rfl)) (pa_cons (pe_ix ix_list (pv 0) (pe_op op_sub (pv 3) pe_int) (fun _ _ => rfl)) pa_nil))))
        (pe_slice sl_list (pv 0) (po_some (pe_op op_add (pv 3) pe_int)) po_none))))))))), ?_⟩
    -- at
    refine ⟨_, rfl, _, rfl, l, _, rfl, .inl (SqL.of hl), _, _, rfl, rfl, _, _, rfl, rfl, (by show (0 : Int) < ((ns.map V.int).length : Int) + 1; omega), ?_⟩
    rw [List.length_map]
    -- odd
    refine ⟨_, rfl, _, rfl, _, rfl, _, _, rfl, rfl, _, rfl, _, rfl, _, _, rfl, rfl, cpow, _, _, rfl, rfl, pow60, _, _, rfl, rfl, _, rfl, _, rfl, _, _, rfl, rfl, cpow, _, _, rfl, rfl, pow60, _, _, rfl, rfl, (by show 5 ≤ sizeLine; decide), fun p0 hp0 => ?_⟩
    refine ⟨_, rfl, _, _, rfl, rfl, ⟨by decide, by decide⟩, _, _, rfl, rfl, (by show (0 : Int) < 5; decide), ?_⟩
    have hmod : 0 ≤ c % 10 ^ (60 : Int).toNat := Int.emod_nonneg _ (Int.ne_of_gt pow60)
    obtain ⟨v, hv, o, rfl, ho⟩ := atI_all (R := fun v => ∃ o, v = V.int o ∧ ¬ (0 ≤ o ∧ o < m)) (all5 (a := .int (-1)) (b := .int m) (c := .int (m + 1)) (d := .int (m + c % 10 ^ (60 : Int).toNat)) (e := .int (-1 - c % 10 ^ (60 : Int).toNat))
      ⟨_, rfl, by omega⟩ ⟨_, rfl, by omega⟩ ⟨_, rfl, by omega⟩ ⟨_, rfl, by omega⟩ ⟨_, rfl, by omega⟩) (i := c / 7 % 5) (by omega) (by show c / 7 % 5 < (5 : Nat); omega)
    refine ⟨p0, _, _, _, rfl, rfl, SqL.of upd_same, hv, ?_⟩
    generalize hH0 : upd H p0 _ = H0
    have s0 : Same H H0 := by rw [← hH0]; exact Same.rfl'.new hp0
    have hl0 := s0 _ _ hl
    -- the first way
    have way1 : ∀ H1, Same H H1 → tOp rCat (tOp rCat (tSl (rSlL K) (tVar 0) tNoPart (tPart (tVar 3))) (tLst (tCons (tVar 4) tNil))) (tSl (rSlL K) (tVar 0) (tPart (tVar 3)) tNoPart) [some (.ref l), some (.int m), some (.int c), some (.int (c % ((ns.length : Int) + 1))), some (.int o)] H1 Q := fun H1 s1 => by
      have e : (((c % ((ns.length : Int) + 1)).toNat : Nat) : Int) = c % ((ns.length : Int) + 1) := Int.toNat_of_nonneg (Int.emod_nonneg _ (by omega))
      refine cat_read (xs := ns.map V.int) (ms := [.int o]) (i := (c % ((ns.length : Int) + 1)).toNat) (j := (c % ((ns.length : Int) + 1)).toNat) (s1 _ _ hl) (by rw [List.length_map]; omega) (by show 1 ≤ 1000; decide) (fun H2 Q2 s2 q2 => ⟨_, rfl, q2⟩) (fun H2 Q2 s2 q2 => ⟨_, rfl, by rw [e] at q2; exact q2⟩) (fun H2 Q2 s2 q2 => ⟨_, rfl, by rw [e] at q2; exact q2⟩)
        (fun H2 Q2 s2 q2 => ⟨_, rfl, q2⟩) fun H' d s2 hd hD => ?_
      refine kQ H' d (ns.take (c % ((ns.length : Int) + 1)).toNat ++ [o] ++ ns.drop (c % ((ns.length : Int) + 1)).toNat) (s1.tr s2) (s1.free hd) ?_ ?_ fun _ => bad_odd ho
      · rw [LI, hD, List.map_append, List.map_append, List.map_take, List.map_drop]
        rfl
      · rw [List.length_append, List.length_append, List.length_take, List.length_drop, List.length_singleton]
        omega
    refine ⟨_, rfl, _, _, rfl, rfl, ⟨by decide, by decide⟩, _, _, rfl, rfl, (by show (0 : Int) < 3; decide), rfl, _, rfl, ?_⟩
    refine ite2 (fun _ => iteT (way1 _ s0)) (fun _ => ?_)
    refine ⟨_, rfl, by show 0 ≤ sizeLine; decide, fun p1 hp1 => ?_⟩
    have s1 : Same H0 (upd H0 p1 (.lst [])) := Same.rfl'.new hp1
    have l1 : LI (upd H0 p1 (.lst [])) l ns := s1 _ _ hl0
    refine ⟨_, _, den_ints l1, den_ints (ns := []) upd_same, sh_ints _, sh_ints _, _, rfl, ?_⟩
    rw [eqv_lints]
    refine ite2 (fun _ => way1 _ (s0.tr s1)) (fun hne => ?_)
    have hne : ns ≠ [] := fun z => hne (decide_eq_true z)
    have hpos : 0 < ns.length := List.length_pos_iff.mpr hne
    generalize hH1 : upd H0 p1 (.lst []) = H1 at s1 l1
    have t1 := s0.tr s1
    -- at = cell % len(numbers)
    refine ⟨_, rfl, _, rfl, l, _, rfl, .inl (SqL.of l1), _, _, rfl, rfl, (by show (0 : Int) < ((ns.map V.int).length : Int); rw [List.length_map]; omega), ?_⟩
    rw [List.length_map]
    have e : (((c % (ns.length : Int)).toNat : Nat) : Int) = c % (ns.length : Int) := Int.toNat_of_nonneg (Int.emod_nonneg _ (by omega))
    have lt : c % (ns.length : Int) < ns.length := Int.emod_lt_of_pos _ (by omega)
    generalize hat : (c % (ns.length : Int)).toNat = k at e
    have hk : k < ns.length := by omega
    have gk : (ns.map V.int)[k]? = some (.int ns[k]) := by rw [List.getElem?_map, List.getElem?_eq_getElem hk]; rfl
    have way2 : tOp rCat (tOp rCat (tSl (rSlL K) (tVar 0) tNoPart (tPart (tVar 3))) (tLst (tCons (tOp (rIxL K) (tVar 0) (tVar 3)) tNil))) (tSl (rSlL K) (tVar 0) (tPart (tVar 3)) tNoPart) [some (.ref l), some (.int m), some (.int c), some (.int (c % (ns.length : Int))), some (.int o)] H1 Q := by
      refine cat_read (xs := ns.map V.int) (ms := [.int ns[k]]) (i := k) (j := k) l1 (by rw [List.length_map]; omega) (by show 1 ≤ 1000; decide) (fun H2 Q2 s2 q2 => ⟨_, rfl, q2⟩) (fun H2 Q2 s2 q2 => ⟨_, rfl, by rw [e] at q2; exact q2⟩) (fun H2 Q2 s2 q2 => ⟨_, rfl, by rw [e] at q2; exact q2⟩)
        (fun H2 Q2 s2 q2 => ⟨_, rfl, _, rfl, l, _, _, _, rfl, rfl, SqL.of (s2 _ _ l1), by rw [← e]; exact atI_nat gk, q2⟩) fun H' d s2 hd hD => ?_
      refine kQ H' d (ns.take k ++ [ns[k]] ++ ns.drop k) (t1.tr s2) (t1.free hd) ?_ ?_ fun _ => ?_
      · rw [LI, hD, List.map_append, List.map_append, List.map_take, List.map_drop]
        rfl
      · rw [List.length_append, List.length_append, List.length_take, List.length_drop, List.length_singleton]
        omega
      · rw [List.drop_eq_getElem_cons hk, List.append_assoc]
        exact bad_pair (Int.lt_irrefl _)
    refine ⟨_, rfl, _, _, rfl, rfl, ⟨by decide, by decide⟩, _, _, rfl, rfl, (by show (0 : Int) < 3; decide), rfl, _, rfl, ?_⟩
    refine ite2 (fun _ => iteT way2) (fun _ => ?_)
    refine ⟨_, rfl, l, _, rfl, .inl (SqL.of l1), rfl, _, rfl, ?_⟩
    rw [List.length_map]
    refine ite2 (fun _ => way2) (fun h1 => ?_)
    have h2 : 2 ≤ ns.length := by
      refine Nat.lt_of_le_of_ne hpos fun z => h1 ?_
      rw [← z]
      rfl
    -- at = max(at, 1)
    refine ⟨_, rfl, _, _, rfl, ?_⟩
    obtain ⟨j, ej, hj1, hj2⟩ : ∃ j : Nat, (if (1 : Int) > c % (ns.length : Int) then (1 : Int) else c % (ns.length : Int)) = ((j + 1 : Nat) : Int) ∧ j + 1 < ns.length ∧ True := by
      rw [← e]
      clear hat gk way2
      by_cases hk0 : k = 0
      · subst hk0
        exact ⟨0, by rw [if_pos (by omega)]; rfl, by omega, trivial⟩
      · refine ⟨k - 1, ?_, by omega, trivial⟩
        rw [if_neg (by omega)]
        omega
    rw [ej]
    have g1 : (ns.map V.int)[j + 1]? = some (.int ns[j + 1]) := by rw [List.getElem?_map, List.getElem?_eq_getElem hj1]; rfl
    have g0 : (ns.map V.int)[j]? = some (.int ns[j]) := by rw [List.getElem?_map, List.getElem?_eq_getElem (by omega)]; rfl
    have em : ((j + 1 : Nat) : Int) - 1 = (j : Int) := by omega
    have ep : ((j + 1 : Nat) : Int) + 1 = ((j + 2 : Nat) : Int) := by omega
    show tOp rCat (tOp rCat (tSl (rSlL K) (tVar 0) tNoPart (tPart (tOp (rI0 fun i j => .int (i - j)) (tVar 3) (tC (.int 1))))) (tLst (tCons (tOp (rIxL K) (tVar 0) (tVar 3)) (tCons (tOp (rIxL K) (tVar 0) (tOp (rI0 fun i j => .int (i - j)) (tVar 3) (tC (.int 1)))) tNil)))) (tSl (rSlL K) (tVar 0) (tPart (tOp (rI0 fun i j => .int (i + j)) (tVar 3) (tC (.int 1)))) tNoPart) [some (.ref l), some (.int m), some (.int c), some (.int ((j + 1 : Nat) : Int)), some (.int o)] H1 Q
    refine cat_read (xs := ns.map V.int) (ms := [.int ns[j + 1], .int ns[j]]) (i := j) (j := j + 2) l1 (by rw [List.length_map]; omega) (by show 2 ≤ 1000; decide) (fun H2 Q2 s2 q2 => ⟨_, rfl, q2⟩) (fun H2 Q2 s2 q2 => ⟨_, rfl, _, _, rfl, rfl, by rw [← em] at q2; exact q2⟩)
      (fun H2 Q2 s2 q2 => ⟨_, rfl, _, _, rfl, rfl, by rw [← ep] at q2; exact q2⟩)
      (fun H2 Q2 s2 q2 => ⟨_, rfl, _, rfl, l, _, _, _, rfl, rfl, SqL.of (s2 _ _ l1), atI_nat g1, _, rfl, _, rfl, _, _, rfl, rfl, l, _, _, _, rfl, rfl, SqL.of (s2 _ _ l1), by rw [em]; exact atI_nat g0, q2⟩) fun H' d s2 hd hD => ?_
    refine kQ H' d (ns.take j ++ [ns[j + 1], ns[j]] ++ ns.drop (j + 2)) (t1.tr s2) (t1.free hd) ?_ ?_ fun hr => ?_
    · rw [LI, hD, List.map_append, List.map_append, List.map_take, List.map_drop]
      rfl
    · rw [List.length_append, List.length_append, List.length_take, List.length_drop]
      show min j ns.length + 2 + (ns.length - (j + 2)) ≤ _
      omega
    · rw [List.append_assoc]
      refine bad_pair fun z => ?_
      have := List.pairwise_iff_getElem.mp (risesB_iff.mp hr).1 j (j + 1) (by omega) hj1 (by omega)
      omega
end
end K05
namespace K05
open PySem L2 XM
theorem flat_set : ∀ (nss : List (List Int)) (k : Nat) (g : List Int) (x : Int), nss[k]? = some g → (nss.set k (g ++ [x])).flatten.length = nss.flatten.length + 1
  | [], k, g, x, h => by simp at h
  | a :: r, 0, g, x, h => by
    simp at h
    subst h
    simp
    omega
  | a :: r, k + 1, g, x, h => by
    have ih := flat_set r k g x (by simpa using h)
    rw [List.set_cons_succ, List.flatten_cons, List.flatten_cons, List.length_append, List.length_append, ih]
    omega
/-- parts and marks while they are made -/
structure PM (H H2 : Hp) (pa ma : Addr) (as : List Addr) (nss : List (List Int)) (ms : List Int) : Prop where
  same : Same H H2
  hp : H2 pa = some (.lst (as.map V.ref))
  hm : LI H2 ma ms
  ls : ∀ (k : Nat) a, as[k]? = some a → ∃ g, nss[k]? = some g ∧ LI H2 a g
  len : as.length = nss.length
  lm : ms.length = nss.length
  nd : as.Nodup
  fr : ∀ a ∈ as, H a = none ∧ a ≠ pa ∧ a ≠ ma
theorem PM.out {H H2 : Hp} {pa ma : Addr} {as : List Addr} {nss : List (List Int)} {ms : List Int} (p : PM H H2 pa ma as nss ms) : LS H2 (as.map V.ref) nss := by
  refine All2.of_get (by rw [List.length_map]; exact p.len) fun i x g h1 h2 => ?_
  rw [List.getElem?_map] at h1
  obtain ⟨a, ha, rfl⟩ := Option.map_eq_some_iff.mp h1
  obtain ⟨g', hg', q⟩ := p.ls i a ha
  rw [h2] at hg'
  cases hg'
  exact ⟨a, rfl, q⟩
section
variable {P : Program} {w : World} {K : PySem.W.Frag} {mg : Str → Option Value} {base : Heap} {CE CS CQ CP CT : Addr}

/-! _law_parting -/
def spParting (K : PySem.W.Frag) : Sp := fun vs H Q _ => ∃ (s : Addr) (ns : List Int) (q : Int), vs = [.ref s, .int q] ∧ SqL K H s (ns.map V.int) ∧ 1 ≤ q ∧ q ≤ 24 ∧
  ∀ (H' : Hp) (d : Addr) (xs : List V) (nss : List (List Int)), Same H H' → H d = none → H' d = some (.lst xs) → LS H' xs nss → nss ≠ [] → (∀ g ∈ nss, g ≠ []) → nss.length ≤ 24 → nss.flatten.length ≤ 24 → Q (.ref d) H'
theorem scParting : FnScope ["script", "quarters", "parts", "marks", "quarter", "cell", "mark"] ["script", "quarters"] (defScope sParting) := ⟨rfl, rfl, rfl, by decide +kernel, rfl, by decide +kernel, by decide +kernel⟩
theorem ok_parting {f f1 : Addr} {fd fd1 : FuncData} (T : Txt K mg CE CS CQ CP CT) (F : Fun K "_law_parting" "_law_parting" sParting f fd) (G1 : FnOk P w K mg base CX0 1 f1 fd1 ["script", "k"] (spAt K)) (b1 : Binds K fd1 ["script", "k"] []) (m1 : mg "_law_at" = some (.ref f1)) (k1 : PySem.W.keepIn K (.ref f1) = true) :
    FnOk P w K mg base CX0 2 f fd ["script", "quarters"] (spParting K) := by
  refine F.ok scParting (fun vs H Q E h => ?_) (fun cdv A outer s H vs Q E hr h => ?_)
  · obtain ⟨s, ns, q, rfl, _⟩ := h
    rfl
  · obtain ⟨sc, ns, q, rfl, hS, hq1, hq2, kQ⟩ := h
    refine ⟨_, pss_cons (ps_set (i := 2) scParting.nd rfl (Or.inl rfl) (pe_lst pa_nil))
      (pss_cons (ps_set (i := 3) scParting.nd rfl (Or.inl rfl) (pe_lst pa_nil))
      (pss_cons (ps_for PassesOwn.never rfl (pi_range1 (by rfl) T.range (pa_cons (pv 1) pa_nil)) (pg_name (i := 4) scParting.nd rfl (Or.inl rfl))
        (pss_cons (ps_set (i := 5) scParting.nd rfl (Or.inl rfl) (pe_op op_add (pe_call G1 hr (by rfl) m1 k1 b1 .nil pass0 (pa_cons (pv 0) (pa_cons (pe_op op_add (pv 4) pe_int) pa_nil))) (pv 4)))
        (pss_cons (ps_set (i := 6) scParting.nd rfl (Or.inl rfl) (pe_op op_mod (pe_op op_mod (pe_op op_mul (pe_op op_mod (pv 5) pe_int) pe_int) pe_int) pe_int))
        (pss_cons (ps_mid (ps_if (pt_cmpR op_notIn_seq (pv 6) (pv 3) rfl)
          (pss_cons (ps_expr (pe_bm PySem.F.plainAttrs_list PySem.F.slot_list_append PySem.F.type_list_append mt_append (pv 3) (pa_cons (pv 6) pa_nil)))
          (pss_one (ps_expr (pe_bm PySem.F.plainAttrs_list PySem.F.slot_list_append PySem.F.type_list_append mt_append (pv 2) (pa_cons (pe_lst pa_nil) pa_nil))))) pss_nil))
        (pss_one (ps_expr (pe_bm PySem.F.plainAttrs_list PySem.F.slot_list_append PySem.F.type_list_append mt_append
          (pe_ix ix_list (pv 2) (pe_bm PySem.F.plainAttrs_list PySem.F.slot_list_index PySem.F.type_list_index mt_index (pv 3) (pa_cons (pv 6) pa_nil)) (fun _ _ => rfl)) (pa_cons (pv 4) pa_nil))))))))
      (pss_one (ps_ret (pv 2))))), ?_⟩
    refine ⟨by show 0 ≤ sizeLine; decide, fun pa hpa => ⟨by show 0 ≤ sizeLine; decide, fun ma hma => ?_⟩⟩
    have s0 : Same H (upd H pa (.lst [])) := Same.rfl'.new hpa
    have s1 : Same H (upd (upd H pa (.lst [])) ma (.lst [])) := s0.tr (Same.rfl'.new hma)
    have hma' : H ma = none := s0.free hma
    have npm : pa ≠ ma := ne_of_none upd_same hma
    refine ⟨_, rfl, q, rfl, by omega, by omega, for_range (lo := 0) (n := q.toNat) (fun i σ H2 => (∃ as nss ms, PM H H2 pa ma as nss ms ∧ nss.length ≤ i ∧ nss.flatten.length ≤ i ∧ (0 < i → nss ≠ []) ∧ ∀ g ∈ nss, g ≠ []) ∧
        ∃ u v z, σ = [some (.ref sc), some (.int q), some (.ref pa), some (.ref ma), u, v, z])
      ⟨⟨[], [], [], ⟨s1, by rw [upd_ne npm]; exact upd_same, upd_same, fun k a z => by simp at z, rfl, rfl, List.nodup_nil, fun a z => by simp at z⟩, by simp, by simp, by omega, fun g z => by simp at z⟩, _, _, _, rfl⟩ ?_ ?_⟩
    · rintro i σ H2 hi ⟨⟨as, nss, ms, pm, l1, l2, _, hne⟩, u, v, z, rfl⟩
      have e0 : (0 : Int) + (i : Int) = (i : Int) := by omega
      rw [e0]
      refine ⟨_, rfl, _, rfl, _, _, rfl, rfl, sc, ns, i + 1, rfl, pm.same.seq hS, _, rfl, _, _, rfl, rfl, ?_⟩
      refine ⟨_, rfl, _, _, rfl, rfl, (by show (0 : Int) < 10007; decide), _, _, rfl, rfl, .inr ⟨by decide, by decide⟩, _, _, rfl, rfl, (by show (0 : Int) < 10007; decide), _, _, rfl, rfl, (by show (0 : Int) < 4; decide), ?_⟩
      -- if mark not in marks
      refine ⟨fun σ' H' => (∃ as nss ms, PM H H' pa ma as nss ms ∧ ((ns.getD (i + 1) 0 + (i : Int)) % 10007 * 619 % 10007 % 4) ∈ ms ∧ nss.length ≤ i + 1 ∧ nss.flatten.length ≤ i ∧ ∀ (k : Nat) g, nss[k]? = some g → g ≠ [] ∨ k = ms.idxOf ((ns.getD (i + 1) 0 + (i : Int)) % 10007 * 619 % 10007 % 4)) ∧
        σ' = [some (.ref sc), some (.int q), some (.ref pa), some (.ref ma), some (.int (i : Int)), some (.int (ns.getD (i + 1) 0 + (i : Int))), some (.int ((ns.getD (i + 1) 0 + (i : Int)) % 10007 * 619 % 10007 % 4))], ?_, ?_⟩
      · rintro σ3 H3 ⟨⟨as, nss, ms, pm, hmem, l1, l2, hg⟩, rfl⟩
        have hk : ms.idxOf ((ns.getD (i + 1) 0 + (i : Int)) % 10007 * 619 % 10007 % 4) < ms.length := List.idxOf_lt_length_iff.mpr hmem
        have hka : ms.idxOf ((ns.getD (i + 1) 0 + (i : Int)) % 10007 * 619 % 10007 % 4) < as.length := by rw [pm.len, ← pm.lm]; exact hk
        obtain ⟨a, ha⟩ : ∃ a, as[ms.idxOf ((ns.getD (i + 1) 0 + (i : Int)) % 10007 * 619 % 10007 % 4)]? = some a := ⟨_, List.getElem?_eq_getElem hka⟩
        obtain ⟨g, hgk, hag⟩ := pm.ls _ a ha
        obtain ⟨fa, np, nm⟩ := pm.fr a (List.mem_of_getElem? ha)
        have ha' : (as.map V.ref)[ms.idxOf ((ns.getD (i + 1) 0 + (i : Int)) % 10007 * 619 % 10007 % 4)]? = some (.ref a) := by rw [List.getElem?_map, ha]; rfl
        have hgl : g.length ≤ nss.flatten.length := len_le_flat hgk
        refine ⟨_, rfl, _, rfl, .inl ⟨rfl, _, SqL.of pm.hm⟩, _, rfl, ma, ms, ((ns.getD (i + 1) 0 + (i : Int)) % 10007 * 619 % 10007 % 4), rfl, rfl, pm.hm, hmem, pa, _, _, _, rfl, rfl, SqL.of pm.hp, atI_nat ha', .inl ⟨rfl, _, SqL.of hag⟩, _, rfl, a, _, _, rfl, rfl, hag, ?_, ?_⟩
        · rw [List.length_map]
          exact small1000 (by omega)
        · refine ⟨⟨as, nss.set (ms.idxOf ((ns.getD (i + 1) 0 + (i : Int)) % 10007 * 619 % 10007 % 4)) (g ++ [(i : Int)]), ms, ⟨fun b o e => by rw [upd_ne (ne_of_none e fa)]; exact pm.same _ _ e, by rw [upd_ne (Ne.symm np)]; exact pm.hp, by rw [LI, upd_ne (Ne.symm nm)]; exact pm.hm, fun k b hb => ?_, by rw [List.length_set]; exact pm.len, by rw [List.length_set]; exact pm.lm, pm.nd, pm.fr⟩,
            by rw [List.length_set]; exact l1, ?_, fun _ z => ?_, fun g' hg' => ?_⟩, _, _, _, rfl⟩
          · by_cases e : k = ms.idxOf ((ns.getD (i + 1) 0 + (i : Int)) % 10007 * 619 % 10007 % 4)
            · subst e
              rw [ha] at hb
              cases hb
              refine ⟨g ++ [(i : Int)], List.getElem?_set_self (by rw [← pm.lm]; exact hk), ?_⟩
              rw [LI, upd_same, List.map_append]
              rfl
            · obtain ⟨g2, hg2, hb2⟩ := pm.ls k b hb
              refine ⟨g2, by rw [List.getElem?_set_ne (Ne.symm e)]; exact hg2, ?_⟩
              have nba : b ≠ a := fun z => by
                subst z
                obtain ⟨h1, e1⟩ := List.getElem?_eq_some_iff.mp hb
                obtain ⟨h2, e2⟩ := List.getElem?_eq_some_iff.mp ha
                exact e ((List.getElem_inj pm.nd).mp (e1.trans e2.symm))
              rw [LI, upd_ne nba]
              exact hb2
          · rw [flat_set _ _ _ _ hgk]
            omega
          · have := congrArg List.length z
            rw [List.length_set, ← pm.lm] at this
            have : ms.length = 0 := this
            omega
          · obtain ⟨k, hk2, e2⟩ := List.mem_iff_getElem.mp hg'
            have e3 : (nss.set (ms.idxOf ((ns.getD (i + 1) 0 + (i : Int)) % 10007 * 619 % 10007 % 4)) (g ++ [(i : Int)]))[k]? = some g' := by rw [List.getElem?_eq_getElem hk2, e2]
            by_cases e : k = ms.idxOf ((ns.getD (i + 1) 0 + (i : Int)) % 10007 * 619 % 10007 % 4)
            · subst e
              rw [List.getElem?_set_self (by rw [← pm.lm]; exact hk)] at e3
              cases e3
              simp
            · rw [List.getElem?_set_ne (Ne.symm e)] at e3
              exact (hg k g' e3).resolve_right e
      · refine ⟨_, rfl, _, rfl, ma, _, rfl, .inl (SqL.of pm.hm), rfl, flat_ints ms, _, rfl, ?_⟩
        have ei : (if true = true then !inV (V.int ((ns.getD (i + 1) 0 + (i : Int)) % 10007 * 619 % 10007 % 4)) (ms.map V.int) else inV (V.int ((ns.getD (i + 1) 0 + (i : Int)) % 10007 * 619 % 10007 % 4)) (ms.map V.int)) = !ms.contains ((ns.getD (i + 1) 0 + (i : Int)) % 10007 * 619 % 10007 % 4) := by rw [if_pos rfl, inV_ints]
        have ei' : (if true = true then !inV (V.int ((ns.getD (i + 1) 0 + (i : Int)) % 10007 * 619 % 10007 % 4)) (ms.map V.int) else inV (V.int ((ns.getD (i + 1) 0 + (i : Int)) % 10007 * 619 % 10007 % 4)) (ms.map V.int)) = !ms.contains ((ns.getD (i + 1) 0 + (i : Int)) % 10007 * 619 % 10007 % 4) := ei
        refine ite2 (fun hc => ?_) (fun hc => ?_)
        · have hc : ((ns.getD (i + 1) 0 + (i : Int)) % 10007 * 619 % 10007 % 4) ∉ ms := by
            have hc := ei'.symm.trans hc
            simpa using hc
          have e : ms.idxOf ((ns.getD (i + 1) 0 + (i : Int)) % 10007 * 619 % 10007 % 4) = ms.length := List.idxOf_eq_length hc
          refine ⟨_, rfl, .inl ⟨rfl, _, SqL.of pm.hm⟩, _, rfl, ma, _, _, rfl, rfl, pm.hm, ?_, ?_⟩
          · rw [List.length_map]
            exact small1000 (by rw [pm.lm]; omega)
          have hp2 : (upd H2 ma (.lst (ms.map V.int ++ [V.int ((ns.getD (i + 1) 0 + (i : Int)) % 10007 * 619 % 10007 % 4)]))) pa = some (.lst (as.map V.ref)) := by rw [upd_ne npm]; exact pm.hp
          refine ⟨_, rfl, .inl ⟨rfl, _, SqL.of hp2⟩, by show 0 ≤ sizeLine; decide, fun p hp => ?_⟩
          have hp' : H2 p = none := by
            have : p ≠ ma := fun z => by
              subst z
              rw [upd_same] at hp
              cases hp
            rw [upd_ne this] at hp
            exact hp
          have nppa : p ≠ pa := Ne.symm (ne_of_none pm.hp hp')
          have npma : p ≠ ma := Ne.symm (ne_of_none pm.hm hp')
          refine ⟨pa, _, _, rfl, rfl, by rw [upd_ne (Ne.symm nppa)]; exact hp2, ?_, ?_⟩
          · rw [List.length_map, pm.len]
            exact small1000 (by omega)
          refine ⟨⟨as ++ [p], nss ++ [[]], ms ++ [((ns.getD (i + 1) 0 + (i : Int)) % 10007 * 619 % 10007 % 4)], ⟨fun b o eb => ?_, ?_, ?_, fun k b hb => ?_, ?_, ?_, ?_, fun a ha => ?_⟩, by simp, by rw [List.length_append]; show _ + 1 ≤ _; omega, by rw [List.flatten_append]; simpa using l2, fun k g hg => ?_⟩, rfl⟩
          · rw [upd_ne (ne_of_none eb hpa), upd_ne (ne_of_none eb (pm.same.free hp')), upd_ne (ne_of_none eb hma')]
            exact pm.same _ _ eb
          · rw [upd_same, List.map_append]
            rfl
          · rw [LI, upd_ne (Ne.symm npm), upd_ne (Ne.symm npma), upd_same, List.map_append]
            rfl
          · by_cases hk : k < as.length
            · rw [List.getElem?_append_left hk] at hb
              obtain ⟨g, hg, hbg⟩ := pm.ls k b hb
              refine ⟨g, by rw [List.getElem?_append_left (by rw [← pm.len]; exact hk)]; exact hg, ?_⟩
              obtain ⟨_, nb1, nb2⟩ := pm.fr b (List.mem_of_getElem? hb)
              rw [LI, upd_ne nb1, upd_ne (ne_of_none hbg hp'), upd_ne nb2]
              exact hbg
            · rw [List.getElem?_append_right (by omega)] at hb
              have hk0 : k - as.length = 0 := by
                have := (List.getElem?_eq_some_iff.mp hb).1
                simp at this
                exact this
              rw [hk0] at hb
              cases hb
              refine ⟨[], by rw [List.getElem?_append_right (by rw [← pm.len]; omega), ← pm.len, hk0]; rfl, ?_⟩
              rw [LI, upd_ne nppa, upd_same]
              rfl
          · rw [List.length_append, List.length_append, pm.len]
            rfl
          · rw [List.length_append, List.length_append, pm.lm]
            rfl
          · refine List.nodup_append.mpr ⟨pm.nd, by simp, fun x hx y hy z => ?_⟩
            rw [List.mem_singleton] at hy
            subst hy
            subst z
            obtain ⟨k, hk, e2⟩ := List.mem_iff_getElem.mp hx
            obtain ⟨g, _, hbg⟩ := pm.ls k x (by rw [List.getElem?_eq_getElem hk, e2])
            rw [LI, hp'] at hbg
            cases hbg
          · rcases List.mem_append.mp ha with ha | ha
            · exact pm.fr a ha
            · rw [List.mem_singleton] at ha
              subst ha
              exact ⟨pm.same.free hp', nppa, npma⟩
          · by_cases hk : k < nss.length
            · rw [List.getElem?_append_left hk] at hg
              exact .inl (hne g (List.mem_of_getElem? hg))
            · right
              rw [List.idxOf_append, if_neg hc]
              have := (List.getElem?_eq_some_iff.mp hg).1
              rw [List.length_append] at this
              have h1 : List.idxOf ((ns.getD (i + 1) 0 + (i : Int)) % 10007 * 619 % 10007 % 4) [((ns.getD (i + 1) 0 + (i : Int)) % 10007 * 619 % 10007 % 4)] = 0 := by simp
              rw [h1, pm.lm]
              have : k < nss.length + 1 := this
              omega
        · have hc : ((ns.getD (i + 1) 0 + (i : Int)) % 10007 * 619 % 10007 % 4) ∈ ms := by
            have hc2 : ¬ (!ms.contains ((ns.getD (i + 1) 0 + (i : Int)) % 10007 * 619 % 10007 % 4)) = true := fun z => hc (ei'.trans z)
            simpa using hc2
          exact ⟨⟨as, nss, ms, pm, hc, by omega, l2, fun k g hg => .inl (hne g (List.mem_of_getElem? hg))⟩, rfl⟩
    · rintro σ H2 ⟨⟨as, nss, ms, pm, l1, l2, l3, hne⟩, u, v, z, rfl⟩
      exact ⟨_, rfl, kQ H2 pa _ nss pm.same hpa pm.hp pm.out (l3 (by omega)) hne (by omega) (by omega)⟩
end
end K05
namespace L2
open PySem PySem.Spec PyProof.Rows
/-- xs[:i] + [..] + xs[j:], the middle laid on the way -/
theorem cat_readA {K : PySem.W.Frag} {σ : St} {H : Hp} {Q : VK} {l : Addr} {xs : List V} {tv te1 te2 : TE} {tm : TA} {i j : Nat} (R : List V → Hp → Prop) (Rs : ∀ ms H H', Same H H' → R ms H → R ms H') (hl : H l = some (.lst xs)) (hz : xs.length ≤ 1000)
    (hv : ∀ H1 (Q1 : VK), Same H H1 → Q1 (.ref l) H1 → tv σ H1 Q1) (h1 : ∀ H1 (Q1 : VK), Same H H1 → Q1 (.int (i : Int)) H1 → te1 σ H1 Q1) (h2 : ∀ H1 (Q1 : VK), Same H H1 → Q1 (.int (j : Int)) H1 → te2 σ H1 Q1)
    (hm : ∀ H1 (Q1 : List V → Hp → Prop), Same H H1 → (∀ ms H2, Same H1 H2 → R ms H2 → ms.length ≤ 1000 → Q1 ms H2) → tm σ H1 Q1)
    (k : ∀ (H' : Hp) (d : Addr) (ms : List V), Same H H' → H d = none → R ms H' → H' d = some (.lst (xs.take i ++ ms ++ xs.drop j)) → Q (.ref d) H') :
    tOp rCat (tOp rCat (tSl (rSlL K) tv tNoPart (tPart te1)) (tLst tm)) (tSl (rSlL K) tv (tPart te2) tNoPart) σ H Q := by
  have li : (xs.take i).length ≤ 1000 := by rw [List.length_take]; omega
  have lj : (xs.drop j).length ≤ 1000 := by rw [List.length_drop]; omega
  refine hv H _ Same.rfl' (h1 H _ Same.rfl' ⟨i, rfl, l, xs, rfl, SqL.of hl, fun p1 hp1 => ?_⟩)
  rw [cut_take]
  have s1 : Same H (upd H p1 (.lst (xs.take i))) := Same.rfl'.new hp1
  refine hm _ _ s1 fun ms H2 t2 r2 hms => ⟨Nat.le_of_lt (small1000 hms), fun p2 hp2 => ?_⟩
  have s2 := (s1.tr t2).tr (Same.rfl'.new (o := .lst ms) hp2)
  have q1 : (upd H2 p2 (.lst ms)) p1 = some (.lst (xs.take i)) := by rw [upd_ne (ne_of_none (t2 _ _ upd_same) hp2)]; exact t2 _ _ upd_same
  refine ⟨p1, p2, _, _, rfl, rfl, q1, upd_same, ?_, fun p3 hp3 => ?_⟩
  · refine Nat.le_trans (m := 2000) (by omega) (by rw [sizeLine_eq]; decide)
  have u3 : Same H2 (upd (upd H2 p2 (.lst ms)) p3 (.lst (xs.take i ++ ms))) := (Same.rfl'.new hp2).tr (Same.rfl'.new hp3)
  have s3 := s2.tr (Same.rfl'.new (o := .lst (xs.take i ++ ms)) hp3)
  refine hv _ _ s3 (h2 _ _ s3 ⟨j, rfl, l, xs, rfl, SqL.of (s3 _ _ hl), fun p4 hp4 => ?_⟩)
  rw [cut_drop]
  have s4 := s3.tr (Same.rfl'.new (o := .lst (xs.drop j)) hp4)
  refine ⟨p3, p4, _, _, rfl, rfl, by rw [upd_ne (ne_of_none upd_same hp4)]; exact upd_same, upd_same, ?_, fun p5 hp5 => ?_⟩
  · rw [List.length_append]
    refine Nat.le_trans (m := 3000) (by omega) (by rw [sizeLine_eq]; decide)
  exact k _ p5 ms (s4.tr (Same.rfl'.new hp5)) (s4.free hp5) (Rs _ _ _ ((u3.tr (Same.rfl'.new hp4)).tr (Same.rfl'.new hp5)) r2) upd_same
end L2
namespace K05
open PySem L2 XM
theorem flat_drop_le (nss : List (List Int)) (i : Nat) : (nss.drop i).flatten.length ≤ nss.flatten.length := by
  have e : nss.flatten = (nss.take i).flatten ++ (nss.drop i).flatten := by rw [← List.flatten_append, List.take_append_drop]
  rw [e, List.length_append]
  omega
section
variable {P : Program} {w : World} {K : PySem.W.Frag} {mg : Str → Option Value} {base : Heap} {CE CS CQ CP CT : Addr}

/-! _law_changed -/
def spChanged : Sp := fun vs H Q _ => ∃ (l : Addr) (xs : List V) (nss : List (List Int)) (q c : Int), vs = [.ref l, .int q, .int c] ∧ H l = some (.lst xs) ∧ LS H xs nss ∧ nss ≠ [] ∧ (∀ g ∈ nss, g ≠ []) ∧ nss.length ≤ 24 ∧ nss.flatten.length ≤ 24 ∧ 1 ≤ q ∧
  ∀ (H' : Hp) (d : Addr) (xs' : List V) (nss' : List (List Int)), Same H H' → H d = none → H' d = some (.lst xs') → LS H' xs' nss' → nss'.length ≤ 100 → nss'.flatten.length ≤ 100 → Q (.ref d) H'
theorem scChanged : FnScope ["parts", "quarters", "cell", "way", "at", "part", "number"] ["parts", "quarters", "cell"] (defScope sChanged) := ⟨rfl, rfl, rfl, by decide +kernel, rfl, by decide +kernel, by decide +kernel⟩
theorem ok_changed {f f1 : Addr} {fd fd1 : FuncData} (T : Txt K mg CE CS CQ CP CT) (F : Fun K "_law_changed" "_law_changed" sChanged f fd) (G1 : FnOk P w K mg base CX0 1 f1 fd1 ["numbers", "most", "cell"] spSpoiled) (b1 : Binds K fd1 ["numbers", "most", "cell"] []) (m1 : mg "_law_spoiled" = some (.ref f1)) (k1 : PySem.W.keepIn K (.ref f1) = true) :
    FnOk P w K mg base CX0 2 f fd ["parts", "quarters", "cell"] spChanged := by
  refine F.ok scChanged (fun vs H Q E h => ?_) (fun cdv A outer s H vs Q E hr h => ?_)
  · obtain ⟨l, xs, nss, q, c, rfl, _⟩ := h
    rfl
  · obtain ⟨l, xs, nss, q, c, rfl, hl, hx, hne, hnz, hn, hn2, hq, kQ⟩ := h
    refine ⟨_, pss_cons (ps_set (i := 3) scChanged.nd rfl (Or.inl rfl) (pe_op op_mod (pv 2) pe_int))
      (pss_cons (ps_set (i := 4) scChanged.nd rfl (Or.inl rfl) (pe_op op_mod (pe_op op_fdiv (pv 2) pe_int) (pe_callB call_len_seq (by rfl) T.len PySem.boot_len (pa_cons (pv 0) pa_nil))))
      (pss_cons (ps_set (i := 5) scChanged.nd rfl (Or.inl rfl) (pe_ix ix_list (pv 0) (pv 4) (fun _ _ => rfl)))
      (pss_cons (ps_set (i := 6) scChanged.nd rfl (Or.inl rfl) (pe_op op_fdiv (pv 2) pe_int))
      (pss_cons (ps_mid (ps_if (pt_cmpR op_eq (pv 3) pe_int (nomark _))
          (pss_one (ps_set (i := 5) scChanged.nd rfl (Or.inl rfl) (pe_op op_cat (pe_slice sl_list (pv 5) po_none (po_some (pe_op op_mod (pv 6) (pe_callB call_len_seq (by rfl) T.len PySem.boot_len (pa_cons (pv 5) pa_nil)))))
            (pe_slice sl_list (pv 5) (po_some (pe_op op_add (pe_op op_mod (pv 6) (pe_callB call_len_seq (by rfl) T.len PySem.boot_len (pa_cons (pv 5) pa_nil))) pe_int)) po_none))))
        (pss_one (ps_if (pt_cmpR op_eq (pv 3) pe_int (nomark _))
          (pss_one (ps_set (i := 5) scChanged.nd rfl (Or.inl rfl) (pe_callB call_sortedI (by rfl) T.sorted boot_sorted (pa_cons (pe_op op_cat (pv 5) (pe_lst (pa_cons (pe_op op_mod (pv 6) (pv 1)) pa_nil))) pa_nil))))
        (pss_one (ps_if (pt_cmpR op_eq (pv 3) pe_int (nomark _))
          (pss_one (ps_set (i := 5) scChanged.nd rfl (Or.inl rfl) (pe_call G1 hr (by rfl) m1 k1 b1 .nil pass0 (pa_cons (pv 5) (pa_cons (pv 1) (pa_cons (pv 6) pa_nil))))))
        (pss_one (ps_if (pt_cmpR op_eq (pv 3) pe_int (nomark _))
          (pss_one (ps_ret (pe_op op_cat (pe_op op_cat (pe_slice sl_list (pv 0) po_none (po_some (pv 4))) (pe_lst (pa_cons (pe_lst pa_nil) pa_nil))) (pe_slice sl_list (pv 0) (po_some (pv 4)) po_none))))
        (pss_one (ps_if (pt_cmpR op_eq (pv 3) pe_int (nomark _))
          (pss_one (ps_ret (pe_op op_cat (pe_slice sl_list (pv 0) (po_some (pv 4)) po_none) (pe_slice sl_list (pv 0) po_none (po_some (pv 4))))))
        (pss_one (ps_if (pt_cmpR op_eq (pv 3) pe_int (nomark _))
          (pss_one (ps_set (i := 5) scChanged.nd rfl (Or.inl rfl) (pe_listRev rfl (by rfl) T.list (by rfl) T.reversed (pv 5)))) pss_nil))))))))))))
      (pss_one (ps_ret (pe_op op_cat (pe_op op_cat (pe_slice sl_list (pv 0) po_none (po_some (pv 4))) (pe_lst (pa_cons (pv 5) pa_nil))) (pe_slice sl_list (pv 0) (po_some (pe_op op_add (pv 4) pe_int)) po_none)))))))), ?_⟩
    have hlen := hx.length
    have hpos : 0 < xs.length := by rw [hlen]; exact List.length_pos_iff.mpr hne
    refine ⟨_, rfl, _, _, rfl, rfl, (by show (0 : Int) < 12; decide), ?_⟩
    refine ⟨_, rfl, _, _, rfl, rfl, ⟨by decide, by decide⟩, _, rfl, l, xs, rfl, .inl (SqL.of hl), _, _, rfl, rfl, (by show (0 : Int) < (xs.length : Int); omega), ?_⟩
    have e : (((c / 12 % (xs.length : Int)).toNat : Nat) : Int) = c / 12 % (xs.length : Int) := Int.toNat_of_nonneg (Int.emod_nonneg _ (by omega))
    have lt : c / 12 % (xs.length : Int) < xs.length := Int.emod_lt_of_pos _ (by omega)
    obtain ⟨k, hk⟩ : ∃ k : Nat, (c / 12 % (xs.length : Int)).toNat = k := ⟨_, rfl⟩
    rw [hk] at e
    have hkl : k < xs.length := by omega
    obtain ⟨x, hxk⟩ : ∃ x, xs[k]? = some x := ⟨_, List.getElem?_eq_getElem hkl⟩
    obtain ⟨g, hg, a, rfl, hag⟩ := hx.get hxk
    have hgl : g.length ≤ 24 := Nat.le_trans (len_le_flat hg) hn2
    have hgne : g ≠ [] := hnz g (List.mem_of_getElem? hg)
    have hgp : 0 < g.length := List.length_pos_iff.mpr hgne
    refine ⟨_, rfl, _, rfl, l, _, _, _, rfl, rfl, SqL.of hl, by rw [← e]; exact atI_nat hxk, ?_⟩
    refine ⟨_, rfl, _, _, rfl, rfl, ⟨by decide, by decide⟩, ?_⟩
    -- the ways
    refine ⟨fun σ' H' => ∃ pa g', σ' = [some (.ref l), some (.int q), some (.int c), some (.int (c % 12)), some (.int (c / 12 % (xs.length : Int))), some (.ref pa), some (.int (c / 300))] ∧ LI H' pa g' ∧ g'.length ≤ 26 ∧ Same H H', ?_, ?_⟩
    · rintro σ1 H1 ⟨pa, g', rfl, hpa, hg', s1⟩
      show tOp rCat (tOp rCat (tSl (rSlL K) (tVar 0) tNoPart (tPart (tVar 4))) (tLst (tCons (tVar 5) tNil))) (tSl (rSlL K) (tVar 0) (tPart (tOp (rI0 fun i j => .int (i + j)) (tVar 4) (tC (.int 1)))) tNoPart) [some (.ref l), some (.int q), some (.int c), some (.int (c % 12)), some (.int (c / 12 % (xs.length : Int))), some (.ref pa), some (.int (c / 300))] H1 Q
      have ep : c / 12 % (xs.length : Int) + 1 = ((k + 1 : Nat) : Int) := by omega
      refine cat_read (xs := xs) (ms := [.ref pa]) (i := k) (j := k + 1) (s1 _ _ hl) (by omega) (by show 1 ≤ 1000; decide) (fun H2 Q2 s2 q2 => ⟨_, rfl, q2⟩) (fun H2 Q2 s2 q2 => ⟨_, rfl, by rw [e] at q2; exact q2⟩) (fun H2 Q2 s2 q2 => ⟨_, rfl, _, _, rfl, rfl, by rw [← ep] at q2; exact q2⟩)
        (fun H2 Q2 s2 q2 => ⟨_, rfl, q2⟩) fun H' d s2 hd hD => ?_
      refine kQ H' d _ (nss.take k ++ [g'] ++ nss.drop (k + 1)) (s1.tr s2) (s1.free hd) hD ?_ ?_ ?_
      · have hx' := hx.same (s1.tr s2)
        exact ((hx'.take k).append (.cons ⟨pa, rfl, s2 _ _ hpa⟩ .nil)).append (hx'.drop (k + 1))
      · rw [List.length_append, List.length_append, List.length_take, List.length_drop, List.length_singleton]
        omega
      · rw [List.flatten_append, List.flatten_append, List.length_append, List.length_append]
        have h1 := flat_take_le nss k
        have h2 := flat_drop_le nss (k + 1)
        have h3 : ([g'] : List (List Int)).flatten.length = g'.length := by simp
        omega
    · have keep : ∀ H1, Same H H1 → ∃ pa g', [some (V.ref l), some (.int q), some (.int c), some (.int (c % 12)), some (.int (c / 12 % (xs.length : Int))), some (.ref a), some (.int (c / 300))] = [some (.ref l), some (.int q), some (.int c), some (.int (c % 12)), some (.int (c / 12 % (xs.length : Int))), some (.ref pa), some (.int (c / 300))] ∧ LI H1 pa g' ∧ g'.length ≤ 26 ∧ Same H H1 :=
        fun H1 s1 => ⟨a, g, rfl, s1 _ _ hag, by omega, s1⟩
      -- way 0
      refine ⟨_, rfl, rfl, _, rfl, ?_⟩
      refine ite2 (fun _ => ?_) (fun _ => ?_)
      · have en : (((c / 300 % (g.length : Int)).toNat : Nat) : Int) = c / 300 % (g.length : Int) := Int.toNat_of_nonneg (Int.emod_nonneg _ (by omega))
        have en1 : c / 300 % (g.length : Int) + 1 = (((c / 300 % (g.length : Int)).toNat + 1 : Nat) : Int) := by omega
        have hgm : ((g.map V.int).length : Int) = (g.length : Int) := by rw [List.length_map]
        refine cat_read2 (K := K) (tv := tVar 5) (xs := g.map V.int) (i := (c / 300 % (g.length : Int)).toNat) (j := (c / 300 % (g.length : Int)).toNat + 1) hag (by rw [List.length_map]; omega) (fun H2 Q2 s2 q2 => ⟨_, rfl, q2⟩)
          (fun H2 Q2 s2 q2 => ⟨_, rfl, _, rfl, a, _, rfl, .inl (SqL.of (s2 _ _ hag)), _, _, rfl, rfl, (by show (0 : Int) < ((g.map V.int).length : Int); rw [hgm]; omega), by rw [en, ← hgm] at q2; exact q2⟩)
          (fun H2 Q2 s2 q2 => ⟨_, rfl, _, rfl, a, _, rfl, .inl (SqL.of (s2 _ _ hag)), _, _, rfl, rfl, (by show (0 : Int) < ((g.map V.int).length : Int); rw [hgm]; omega), _, _, rfl, rfl, by rw [← en1, ← hgm] at q2; exact q2⟩) fun H' d s2 hd hD => ?_
        refine ⟨d, g.take (c / 300 % (g.length : Int)).toNat ++ g.drop ((c / 300 % (g.length : Int)).toNat + 1), rfl, ?_, ?_, s2⟩
        · rw [LI, hD, List.map_append, List.map_take, List.map_drop]
        · rw [List.length_append, List.length_take, List.length_drop]
          omega
      -- way 1
      refine ⟨_, rfl, rfl, _, rfl, ?_⟩
      refine ite2 (fun _ => ?_) (fun _ => ?_)
      · refine ⟨_, rfl, _, rfl, _, rfl, _, _, rfl, rfl, (by show (0 : Int) < q; omega), by show 1 ≤ sizeLine; decide, fun p1 hp1 => ?_⟩
        have t1 : Same H (upd H p1 (.lst [V.int (c / 300 % q)])) := Same.rfl'.new hp1
        refine ⟨a, p1, _, _, rfl, rfl, t1 _ _ hag, upd_same, ?_, fun p2 hp2 => ?_⟩
        · rw [List.length_map]
          exact Nat.le_of_lt (small1000 (by show g.length + 1 ≤ 1000; omega))
        have t2 := t1.tr (Same.rfl'.new (o := .lst (g.map V.int ++ [V.int (c / 300 % q)])) hp2)
        refine ⟨p2, g ++ [c / 300 % q], rfl, SqL.of ?_, by rw [List.length_append]; show g.length + 1 < 64; omega, fun d ns' hd hp _ => ?_⟩
        · rw [List.map_append]
          exact upd_same
        · have := hp.length_eq
          rw [List.length_append] at this
          have : ns'.length = g.length + 1 := this
          exact ⟨d, ns', rfl, upd_same, by omega, t2.tr (Same.rfl'.new hd)⟩
      -- way 2
      refine ⟨_, rfl, rfl, _, rfl, ?_⟩
      refine ite2 (fun _ => ?_) (fun _ => ?_)
      · refine ⟨_, rfl, _, rfl, _, rfl, a, g, q, c / 300, rfl, hag, by omega, fun H' d ns' s2 hd hD hl' _ => ?_⟩
        exact ⟨d, ns', rfl, hD, by omega, s2⟩
      -- way 3
      refine ⟨_, rfl, rfl, _, rfl, ?_⟩
      refine ite2 (fun _ => ?_) (fun _ => ?_)
      · show tOp rCat (tOp rCat (tSl (rSlL K) (tVar 0) tNoPart (tPart (tVar 4))) (tLst (tCons (tLst tNil) tNil))) (tSl (rSlL K) (tVar 0) (tPart (tVar 4)) tNoPart) [some (.ref l), some (.int q), some (.int c), some (.int (c % 12)), some (.int (c / 12 % (xs.length : Int))), some (.ref a), some (.int (c / 300))] H Q
        refine cat_readA (xs := xs) (i := k) (j := k) (fun ms H => ∃ p, ms = [.ref p] ∧ LI H p []) (fun ms H H' s ⟨p, e, q⟩ => ⟨p, e, s _ _ q⟩) hl (by omega) (fun H2 Q2 s2 q2 => ⟨_, rfl, q2⟩) (fun H2 Q2 s2 q2 => ⟨_, rfl, by rw [e] at q2; exact q2⟩) (fun H2 Q2 s2 q2 => ⟨_, rfl, by rw [e] at q2; exact q2⟩)
          (fun H2 Q2 s2 q2 => ⟨by show 0 ≤ sizeLine; decide, fun p hp => q2 _ _ (Same.rfl'.new hp) ⟨p, rfl, upd_same⟩ (by show 1 ≤ 1000; decide)⟩) fun H' d ms s2 hd hR hD => ?_
        obtain ⟨p, rfl, hp⟩ := hR
        refine kQ H' d _ (nss.take k ++ [[]] ++ nss.drop k) s2 hd hD ?_ ?_ ?_
        · have hx' := hx.same s2
          exact ((hx'.take k).append (.cons ⟨p, rfl, hp⟩ .nil)).append (hx'.drop k)
        · rw [List.length_append, List.length_append, List.length_take, List.length_drop, List.length_singleton]
          omega
        · rw [List.flatten_append, List.flatten_append, List.length_append, List.length_append]
          have h1 := flat_take_le nss k
          have h2 := flat_drop_le nss k
          have h3 : ([[]] : List (List Int)).flatten.length = 0 := by simp
          omega
      -- way 4
      refine ⟨_, rfl, rfl, _, rfl, ?_⟩
      refine ite2 (fun _ => ?_) (fun _ => ?_)
      · refine ⟨_, rfl, _, rfl, c / 12 % (xs.length : Int), rfl, l, xs, rfl, SqL.of hl, fun p1 hp1 => ?_⟩
        rw [← e, cut_drop]
        have t1 : Same H (upd H p1 (.lst (xs.drop k))) := Same.rfl'.new hp1
        refine ⟨_, rfl, _, rfl, c / 12 % (xs.length : Int), rfl, l, xs, rfl, SqL.of (t1 _ _ hl), fun p2 hp2 => ?_⟩
        rw [← e, cut_take]
        have t2 := t1.tr (Same.rfl'.new (o := .lst (xs.take k)) hp2)
        refine ⟨p1, p2, _, _, rfl, rfl, by rw [upd_ne (ne_of_none upd_same hp2)]; exact upd_same, upd_same, ?_, fun p3 hp3 => ?_⟩
        · rw [List.length_take, List.length_drop]
          exact Nat.le_of_lt (small1000 (by omega))
        have t3 := t2.tr (Same.rfl'.new (o := .lst (xs.drop k ++ xs.take k)) hp3)
        refine kQ _ p3 _ (nss.drop k ++ nss.take k) t3 (t2.free hp3) upd_same ?_ ?_ ?_
        · have hx' := hx.same t3
          exact (hx'.drop k).append (hx'.take k)
        · rw [List.length_append, List.length_take, List.length_drop]
          omega
        · rw [List.flatten_append, List.length_append]
          have h1 := flat_take_le nss k
          have h2 := flat_drop_le nss k
          omega
      -- way 5
      refine ⟨_, rfl, rfl, _, rfl, ?_⟩
      refine ite2 (fun _ => ?_) (fun _ => keep _ Same.rfl')
      refine ⟨_, rfl, a, _, rfl, SqL.of hag, fun d hd => ⟨d, g.reverse, rfl, ?_, by rw [List.length_reverse]; omega, Same.rfl'.new hd⟩⟩
      rw [LI, upd_same, List.map_reverse]
end
end K05
namespace K05
open PySem L2 XM

/-! plain mathematics: counts -/
theorem count_le_one : ∀ {l : List Int}, l.Nodup → ∀ x, l.count x ≤ 1
  | [], _, x => by simp
  | a :: r, h, x => by
    obtain ⟨h1, h2⟩ := List.nodup_cons.mp h
    rw [List.count_cons]
    by_cases e : a = x
    · subst e
      have : r.count a = 0 := List.count_eq_zero.mpr h1
      rw [this]
      simp
    · have := count_le_one h2 x
      rw [if_neg (by simpa using e)]
      omega
theorem nodup_of_count : ∀ {l : List Int}, (∀ x ∈ l, l.count x ≤ 1) → l.Nodup
  | [], _ => List.nodup_nil
  | a :: r, h => by
    refine List.nodup_cons.mpr ⟨fun z => ?_, nodup_of_count fun x hx => ?_⟩
    · have := h a List.mem_cons_self
      rw [List.count_cons, if_pos (by simp)] at this
      have h2 : 0 < r.count a := List.count_pos_iff.mpr z
      omega
    · have := h x (List.mem_cons_of_mem _ hx)
      rw [List.count_cons] at this
      omega
theorem nodup_len : ∀ (l r : List Int), l.Nodup → (∀ x ∈ l, x ∈ r) → l.length ≤ r.length
  | [], r, _, _ => Nat.zero_le _
  | a :: l, r, hn, hs => by
    obtain ⟨ha, hl⟩ := List.nodup_cons.mp hn
    have har : a ∈ r := hs a List.mem_cons_self
    have hlen : (r.erase a).length = r.length - 1 := List.length_erase_of_mem har
    have hpos : 0 < r.length := List.length_pos_of_mem har
    have ih := nodup_len l (r.erase a) hl fun y hy => by
      refine (List.mem_erase_of_ne fun z => ?_).mpr (hs y (List.mem_cons_of_mem _ hy))
      subst z
      exact ha hy
    rw [List.length_cons]
    omega
def seenL (n : Nat) (l : List Int) : List Int := (List.range n).map fun k => (l.count ((k : Nat) : Int) : Int)
theorem seenL_len (n : Nat) (l : List Int) : (seenL n l).length = n := by unfold seenL; simp
theorem seenL_at {n : Nat} {l : List Int} {k : Nat} (h : k < n) : (seenL n l)[k]? = some (l.count ((k : Nat) : Int) : Int) := by
  unfold seenL
  rw [List.getElem?_map, List.getElem?_range h]
  rfl
theorem seenL_nil (n : Nat) : seenL n [] = List.replicate n 0 := by
  apply List.ext_getElem?
  intro k
  by_cases h : k < n
  · rw [seenL_at h, List.getElem?_replicate, if_pos h]
    simp
  · rw [List.getElem?_eq_none (by rw [seenL_len]; omega), List.getElem?_eq_none (by simp; omega)]
theorem seenL_snoc {n : Nat} {l : List Int} {k : Nat} (h : k < n) : seenL n (l ++ [(k : Int)]) = (seenL n l).set k ((l.count ((k : Nat) : Int) : Int) + 1) := by
  apply List.ext_getElem?
  intro j
  by_cases hj : j < n
  · rw [seenL_at hj]
    by_cases e : j = k
    · subst e
      rw [List.getElem?_set_self (by rw [seenL_len]; exact hj), List.count_append]
      simp
    · rw [List.getElem?_set_ne (Ne.symm e), seenL_at hj, List.count_append]
      have : List.count ((j : Nat) : Int) [((k : Nat) : Int)] = 0 := List.count_eq_zero.mpr (by simp; omega)
      rw [this]
      simp
  · rw [List.getElem?_eq_none (by rw [seenL_len]; omega), List.getElem?_eq_none (by rw [List.length_set, seenL_len]; omega)]
theorem seen_ones {l : List Int} {q : Int} (h0 : 0 ≤ q) (hr : ∀ x ∈ l, 0 ≤ x ∧ x < q) : seenL q.toNat l = List.replicate q.toNat 1 ↔ l.Nodup ∧ (l.length : Int) = q := by
  constructor
  · intro h
    have one : ∀ x, 0 ≤ x → x < q → l.count x = 1 := fun x h1 h2 => by
      have hk : x.toNat < q.toNat := by omega
      have := seenL_at (l := l) hk
      rw [h, List.getElem?_replicate, if_pos hk] at this
      have := Option.some.inj this
      rw [show ((x.toNat : Nat) : Int) = x by omega] at this
      omega
    have nd : l.Nodup := nodup_of_count fun x hx => by
      have := one x (hr x hx).1 (hr x hx).2
      omega
    refine ⟨nd, ?_⟩
    have h1 := nodup_len l (upto q) nd fun x hx => mem_upto.mpr (hr x hx)
    have h2 := nodup_len (upto q) l (upto_nodup q) fun x hx => by
      obtain ⟨a, b⟩ := mem_upto.mp hx
      have := one x a b
      exact List.count_pos_iff.mp (by omega)
    rw [upto_len] at h1 h2
    omega
  · rintro ⟨nd, hl⟩
    apply List.ext_getElem?
    intro k
    by_cases hk : k < q.toNat
    · rw [seenL_at hk, List.getElem?_replicate, if_pos hk]
      have hm := fills nd hr hl (k : Int) (by omega) (by omega)
      have h1 := count_le_one nd (k : Int)
      have h2 : 0 < l.count (k : Int) := List.count_pos_iff.mpr hm
      have : l.count (k : Int) = 1 := by omega
      rw [this]
      rfl
    · rw [List.getElem?_eq_none (by rw [seenL_len]; omega), List.getElem?_eq_none (by simp; omega)]
def partsFrom (a q : Int) : List (List Int) → Bool
  | [] => true
  | g :: r => (risesB g q && (!decide (g = []) && decide (a < g.headD 0))) && partsFrom (g.headD 0) q r
theorem partsFrom_iff {q : Int} : ∀ {nss : List (List Int)} {a : Int}, partsFrom a q nss = true ↔ (∀ g ∈ nss, risesB g q = true ∧ g ≠ []) ∧ (nss.map (·.headD 0)).Pairwise (· < ·) ∧ ∀ g ∈ nss, a < g.headD 0
  | [], a => by simp [partsFrom]
  | g :: r, a => by
    have ih := @partsFrom_iff q r (g.headD 0)
    have e : partsFrom a q (g :: r) = ((risesB g q && (!decide (g = []) && decide (a < g.headD 0))) && partsFrom (g.headD 0) q r) := rfl
    rw [e, Bool.and_eq_true, Bool.and_eq_true, Bool.and_eq_true, decide_eq_true_eq, ih, List.map_cons, List.pairwise_cons]
    have ed : (!decide (g = [])) = true ↔ g ≠ [] := by simp
    rw [ed]
    constructor
    · rintro ⟨⟨h1, h2, h3⟩, h4, h5, h6⟩
      refine ⟨fun x hx => ?_, ⟨fun x hx => ?_, h5⟩, fun x hx => ?_⟩
      · rcases List.mem_cons.mp hx with rfl | hx
        · exact ⟨h1, h2⟩
        · exact h4 x hx
      · obtain ⟨y, hy, rfl⟩ := List.mem_map.mp hx
        exact h6 y hy
      · rcases List.mem_cons.mp hx with rfl | hx
        · exact h3
        · have := h6 x hx
          omega
    · rintro ⟨h1, ⟨h2, h3⟩, h4⟩
      obtain ⟨a1, a2⟩ := h1 g List.mem_cons_self
      exact ⟨⟨a1, a2, h4 g List.mem_cons_self⟩, fun x hx => h1 x (List.mem_cons_of_mem _ hx), h3, fun x hx => h2 _ (List.mem_map.mpr ⟨x, hx, rfl⟩)⟩
theorem grp1 {q : Int} {g : List Int} : grpOk q 1 g = true ↔ risesB g q = true ∧ g ≠ [] := by
  unfold grpOk
  rw [Bool.and_eq_true]
  have : (!decide ((g.length : Int) < 1)) = true ↔ g ≠ [] := by
    cases g with
    | nil => simp
    | cons a r => simp; omega
  rw [this]
  exact and_comm
theorem head_in {g : List Int} {q : Int} (h : risesB g q = true) (hn : g ≠ []) : 0 ≤ g.headD 0 ∧ g.headD 0 < q := by
  cases g with
  | nil => exact absurd rfl hn
  | cons a r => exact (risesB_iff.mp h).2 a List.mem_cons_self
theorem isPart_eq (nss : List (List Int)) (q : Int) (h0 : 0 ≤ q) : isPart nss q = (partsFrom (-1) q nss && decide (seenL q.toNat nss.flatten = List.replicate q.toNat 1)) := by
  rw [Bool.eq_iff_iff]
  unfold isPart groupsOk
  rw [Bool.and_eq_true, Bool.and_eq_true, Bool.and_eq_true, Bool.and_eq_true, decide_eq_true_eq, decide_eq_true_eq, lens_sum, once_iff, rising_iff, partsFrom_iff, List.all_eq_true]
  constructor
  · rintro ⟨⟨h1, h2, h3⟩, h4⟩
    have hr : ∀ x ∈ nss.flatten, 0 ≤ x ∧ x < q := groups_rng (f := 1) (List.all_eq_true.mpr h1)
    refine ⟨⟨fun g hg => grp1.mp (h1 g hg), h3, fun g hg => ?_⟩, (seen_ones h0 hr).mpr ⟨h2, h4⟩⟩
    obtain ⟨a, b⟩ := grp1.mp (h1 g hg)
    have := (head_in a b).1
    omega
  · rintro ⟨⟨h1, h3, _⟩, h5⟩
    have h1' : ∀ g ∈ nss, grpOk q 1 g = true := fun g hg => grp1.mpr (h1 g hg)
    have hr : ∀ x ∈ nss.flatten, 0 ≤ x ∧ x < q := groups_rng (f := 1) (List.all_eq_true.mpr h1')
    obtain ⟨a, b⟩ := (seen_ones h0 hr).mp h5
    exact ⟨⟨h1', a, h3⟩, b⟩

section
variable {P : Program} {w : World} {K : PySem.W.Frag} {mg : Str → Option Value} {base : Heap} {CE CS CQ CP CT : Addr}

/-! _law_is_parting -/
def spLPart : Sp := fun vs H Q _ => ∃ (l : Addr) (xs : List V) (nss : List (List Int)) (q : Int), vs = [.ref l, .int q] ∧ H l = some (.lst xs) ∧ LS H xs nss ∧ 1 ≤ q ∧ q ≤ 24 ∧ ∀ H', Same H H' → Q (.bl (isPart nss q)) H'
theorem scLPart : FnScope ["parts", "quarters", "seen", "last", "part", "quarter"] ["parts", "quarters"] (defScope sLPart) := ⟨rfl, rfl, rfl, by decide +kernel, rfl, by decide +kernel, by decide +kernel⟩
theorem rep_int (n : Nat) (x : Int) : (List.replicate n [V.int x]).flatten = (List.replicate n x).map V.int := by
  induction n with
  | zero => rfl
  | succ n ih => rw [List.replicate_succ, List.flatten_cons, ih, List.replicate_succ]; rfl
theorem ixN_at {n : Nat} {k : Nat} (h : k < n) : ixN n (k : Int) = some k := by
  unfold ixN
  rw [if_pos (by omega), if_pos (by omega)]
  simp
theorem ok_lpart {f f1 : Addr} {fd fd1 : FuncData} (T : Txt K mg CE CS CQ CP CT) (F : Fun K "_law_is_parting" "_law_is_parting" sLPart f fd) (G1 : FnOk P w K mg base CX0 1 f1 fd1 ["found", "most"] spRising) (b1 : Binds K fd1 ["found", "most"] []) (m1 : mg "_law_rising" = some (.ref f1)) (k1 : PySem.W.keepIn K (.ref f1) = true) :
    FnOk P w K mg base CX0 2 f fd ["parts", "quarters"] spLPart := by
  refine F.ok scLPart (fun vs H Q E h => ?_) (fun cdv A outer s H vs Q E hr h => ?_)
  · obtain ⟨l, xs, nss, q, rfl, _⟩ := h
    rfl
  · obtain ⟨l, xs, nss, q, rfl, hl, hx, hq1, hq2, kQ⟩ := h
    have hu := hr.units
    refine ⟨_, pss_cons (ps_set (i := 2) scLPart.nd rfl (Or.inl rfl) (pe_op op_rep (pe_lst (pa_cons pe_int pa_nil)) (pv 1)))
      (pss_cons (ps_set (i := 3) scLPart.nd rfl (Or.inl rfl) (pe_un un_neg pe_int))
      (pss_cons (ps_for PassesOwn.never rfl (pi_list (pv 0)) (pg_name (i := 4) scLPart.nd rfl (Or.inl rfl))
        (pss_cons (ps_if (pw_or (pt_not (pt_val (pe_call G1 hr (by rfl) m1 k1 b1 .nil pass0 (pa_cons (pv 4) (pa_cons (pv 1) pa_nil))))) (pw_or (pt_cmpR (op_eqD hu) (pv 4) (pe_lst pa_nil) (nomark _)) (pw_or1 (pt_cmpR op_le (pe_ix ix_list (pv 4) pe_int (fun _ _ => rfl)) (pv 3) (nomark _))))).pt (pss_one (ps_ret pe_bl)) pss_nil)
        (pss_cons (ps_set (i := 3) scLPart.nd rfl (Or.inl rfl) (pe_ix ix_list (pv 4) pe_int (fun _ _ => rfl)))
        (pss_one (ps_for PassesOwn.never rfl (pi_list (pv 4)) (pg_name (i := 5) scLPart.nd rfl (Or.inl rfl))
          (pss_one (ps_asg (pe_op op_add (pe_ix ix_list (pv 2) (pv 5) (fun _ _ => rfl)) pe_int) (pg_sub (pv 2) (pv 5) set_list))))))))
      (pss_one (ps_ret (pe_cmpR (op_eqD hu) (pv 2) (pe_op op_rep (pe_lst (pa_cons pe_int pa_nil)) (pv 1)) (nomark _)))))), ?_⟩
    have hlen := hx.length
    rw [isPart_eq nss q (by omega)] at kQ
    refine ⟨by show 1 ≤ sizeLine; decide, fun p0 hp0 => ⟨_, rfl, p0, q, _, rfl, rfl, upd_same, by omega, by omega, ?_, fun sa hsa => ?_⟩⟩
    · show 1 * q.toNat ≤ sizeLine
      rw [sizeLine_eq]
      omega
    rw [rep_int]
    have s0 : Same H (upd H p0 (.lst [V.int 0])) := Same.rfl'.new hp0
    have s1 := s0.tr (Same.rfl'.new (o := .lst ((List.replicate q.toNat (0 : Int)).map V.int)) hsa)
    have hsa' : H sa = none := s0.free hsa
    refine ⟨_, rfl, ?_⟩
    refine ⟨_, rfl, l, rfl, ⟨_, SqL.of (s1 _ _ hl)⟩, for_list (K := K) (a := l) (xs := xs) (fun i σ H2 => Same H H2 ∧ LI H2 sa (seenL q.toNat (nss.take i).flatten) ∧ ∃ last u v, σ = [some (.ref l), some (.int q), some (.ref sa), some (.int last), u, v] ∧ partsFrom (-1) q nss = partsFrom last q (nss.drop i))
      ⟨s1, by rw [LI, upd_same]; simp [seenL_nil], _, _, _, rfl, rfl⟩ (fun i σ H2 _ ⟨e, _⟩ => SqL.of (e _ _ hl)) ?_ ?_⟩
    · rintro i x σ H2 hi ⟨s2, hsn, last, u, v, rfl, er⟩
      obtain ⟨g, hg, a, rfl, hat⟩ := hx.get hi
      have ha2 : LI H2 a g := s2 _ _ hat
      have hil : i < nss.length := (List.getElem?_eq_some_iff.mp hg).1
      have ed : nss.drop i = g :: nss.drop (i + 1) := by
        rw [List.drop_eq_getElem_cons hil]
        congr 1
        exact (List.getElem?_eq_some_iff.mp hg).2
      rw [ed, show partsFrom last q (g :: nss.drop (i + 1)) = ((risesB g q && (!decide (g = []) && decide (last < g.headD 0))) && partsFrom (g.headD 0) q (nss.drop (i + 1))) from rfl] at er
      have no : partsFrom (-1) q nss = false → ∀ H3, Same H H3 → Q (.bl false) H3 := fun hz H3 s3 => by
        have := kQ H3 s3
        rw [hz] at this
        exact this
      refine ⟨_, rfl, _, rfl, a, g, q, rfl, ha2, _, rfl, ?_⟩
      cases hb : risesB g q with
      | false =>
        refine iteT (iteT (no ?_ _ s2))
        rw [er, hb]
        rfl
      | true =>
        rw [hb, Bool.true_and] at er
        refine iteF ⟨_, rfl, by show 0 ≤ sizeLine; decide, fun p1 hp1 => ?_⟩
        have t1 : Same H2 (upd H2 p1 (.lst [])) := Same.rfl'.new hp1
        have a1 : LI (upd H2 p1 (.lst [])) a g := t1 _ _ ha2
        refine ⟨_, _, den_ints a1, den_ints (ns := []) upd_same, sh_ints _, sh_ints _, _, rfl, ?_⟩
        rw [eqv_lints]
        by_cases hge : g = []
        · rw [decide_eq_true hge] at er ⊢
          refine iteT (iteT (no ?_ _ (s2.tr t1)))
          rw [er]
          rfl
        · rw [decide_eq_false hge] at er ⊢
          have hd : (g.map V.int)[0]? = some (.int (g.headD 0)) := by
            cases g with
            | nil => exact absurd rfl hge
            | cons n r => rfl
          refine iteF ⟨_, rfl, a, _, _, _, rfl, rfl, SqL.of a1, atI_nat (j := 0) hd, _, rfl, _, _, rfl, rfl, _, rfl, ?_⟩
          by_cases h1 : g.headD 0 ≤ last
          · rw [decide_eq_true h1]
            refine iteT (no ?_ _ (s2.tr t1))
            rw [er, decide_eq_false (show ¬ last < g.headD 0 by omega)]
            rfl
          · rw [decide_eq_false h1]
            rw [decide_eq_true (show last < g.headD 0 by omega)] at er
            refine iteF ⟨_, rfl, a, _, _, _, rfl, rfl, SqL.of a1, atI_nat (j := 0) hd, ?_⟩
            have rng := (risesB_iff.mp hb).2
            refine ⟨_, rfl, a, rfl, ⟨_, SqL.of a1⟩, for_list (K := K) (a := a) (xs := g.map V.int) (fun j σ H3 => Same H H3 ∧ LI H3 sa (seenL q.toNat ((nss.take i).flatten ++ g.take j)) ∧ ∃ z, σ = [some (.ref l), some (.int q), some (.ref sa), some (.int (g.headD 0)), some (.ref a), z])
              ⟨s2.tr t1, by rw [List.take_zero, List.append_nil]; exact t1 _ _ hsn, _, rfl⟩ (fun j σ H3 _ ⟨e, _⟩ => SqL.of (e _ _ hat)) ?_ ?_⟩
            · rintro j y σ H3 hj ⟨s3, hs3, z, rfl⟩
              rw [List.getElem?_map] at hj
              obtain ⟨n, hn, rfl⟩ := Option.map_eq_some_iff.mp hj
              obtain ⟨n0, n1⟩ := rng n (List.mem_of_getElem? hn)
              obtain ⟨k, rfl⟩ : ∃ k : Nat, n = (k : Int) := ⟨n.toNat, by omega⟩
              have hkq : k < q.toNat := by omega
              have hsk : ((seenL q.toNat ((nss.take i).flatten ++ g.take j)).map V.int)[k]? = some (.int (((nss.take i).flatten ++ g.take j).count ((k : Nat) : Int) : Int)) := by
                rw [List.getElem?_map, seenL_at hkq]
                rfl
              refine ⟨_, rfl, _, rfl, sa, _, _, _, rfl, rfl, SqL.of hs3, atI_nat hsk, _, _, rfl, rfl, _, rfl, _, rfl, sa, _, _, k, rfl, rfl, hs3, ixN_at (by rw [List.length_map, seenL_len]; exact hkq), ?_⟩
              refine ⟨fun b o e => by rw [upd_ne (ne_of_none e hsa')]; exact s3 _ _ e, ?_, _, rfl⟩
              rw [LI, upd_same, take_snoc' hn, ← List.append_assoc, seenL_snoc hkq, List.map_set]
            · rintro σ H3 ⟨s3, hs3, z, rfl⟩
              rw [List.length_map, List.take_length] at hs3
              refine ⟨s3, by rw [flat_take hg]; exact hs3, _, _, _, rfl, ?_⟩
              exact er
    · rintro σ H2 ⟨s2, hsn, last, u, v, rfl, er⟩
      rw [hlen, List.take_length] at hsn
      rw [hlen, List.drop_length] at er
      refine ⟨_, rfl, by show 1 ≤ sizeLine; decide, fun p1 hp1 => ⟨_, rfl, p1, q, _, rfl, rfl, upd_same, by omega, by omega, ?_, fun p2 hp2 => ?_⟩⟩
      · show 1 * q.toNat ≤ sizeLine
        rw [sizeLine_eq]
        omega
      rw [rep_int]
      have t1 : Same H2 (upd H2 p1 (.lst [V.int 1])) := Same.rfl'.new hp1
      have t2 := t1.tr (Same.rfl'.new (o := .lst ((List.replicate q.toNat (1 : Int)).map V.int)) hp2)
      refine ⟨_, _, den_ints (t2 _ _ hsn), den_ints (ns := List.replicate q.toNat 1) upd_same, sh_ints _, sh_ints _, ?_⟩
      rw [eqv_lints]
      have := kQ _ (s2.tr t2)
      rw [er] at this
      exact this

/-! _law_within_one -/
def inOne (nss : List (List Int)) (p : Int × Int) : Bool := nss.any fun g => g.contains p.1 && g.contains p.2
def spOne : Sp := fun vs H Q _ => ∃ (l : Addr) (xs : List V) (nss : List (List Int)) (a : Addr) (p : Int × Int), vs = [.ref l, .ref a] ∧ H l = some (.lst xs) ∧ LS H xs nss ∧ H a = some (.tup [.int p.1, .int p.2]) ∧ Q (.bl (inOne nss p)) H
theorem scOne : FnScope ["parts", "pair", "part"] ["parts", "pair"] (defScope sOne) := ⟨rfl, rfl, rfl, by decide +kernel, rfl, by decide +kernel, by decide +kernel⟩
theorem ok_one {f : Addr} {fd : FuncData} (T : Txt K mg CE CS CQ CP CT) (F : Fun K "_law_within_one" "_law_within_one" sOne f fd) : FnOk P w K mg base CX0 1 f fd ["parts", "pair"] spOne := by
  refine F.ok scOne (fun vs H Q E h => ?_) (fun cdv A outer s H vs Q E hr h => ?_)
  · obtain ⟨l, xs, nss, a, p, rfl, _⟩ := h
    rfl
  · obtain ⟨l, xs, nss, a, p, rfl, hl, hx, ha, kQ⟩ := h
    refine ⟨_, pss_cons (ps_for PassesOwn.never rfl (pi_list (pv 0)) (pg_name (i := 2) scOne.nd rfl (Or.inl rfl))
        (pss_one (ps_if (pw_and (pt_cmpR op_in_seq (pe_ix ix_tup (pv 1) pe_int (fun _ _ => rfl)) (pv 2) rfl) (pw_and1 (pt_cmpR op_in_seq (pe_ix ix_tup (pv 1) pe_int (fun _ _ => rfl)) (pv 2) rfl))).pt (pss_one (ps_ret pe_bl)) pss_nil)))
      (pss_one (ps_ret pe_bl)), ?_⟩
    have hlen := hx.length
    refine ⟨_, rfl, l, rfl, ⟨_, SqL.of hl⟩, for_list (K := K) (a := l) (xs := xs) (fun i σ H2 => H2 = H ∧ inOne (nss.take i) p = false ∧ ∃ u, σ = [some (.ref l), some (.ref a), u])
      ⟨rfl, by simp [inOne], _, rfl⟩ (fun i σ H2 _ ⟨e, _⟩ => by subst e; exact SqL.of hl) ?_ ?_⟩
    · rintro i x σ H2 hi ⟨rfl, hf, u, rfl⟩
      obtain ⟨g, hg, b, rfl, hbg⟩ := hx.get hi
      have et : inOne (nss.take (i + 1)) p = (g.contains p.1 && g.contains p.2) := by
        unfold inOne at hf ⊢
        rw [take_snoc' hg, List.any_append, hf]
        simp
      have yes : (g.contains p.1 && g.contains p.2) = true → Q (.bl true) H2 := fun h => by
        have : inOne nss p = true := List.any_eq_true.mpr ⟨g, List.mem_of_getElem? hg, h⟩
        rw [this] at kQ
        exact kQ
      refine ⟨_, rfl, a, _, _, _, rfl, rfl, SqT.of ha, atI_nat (j := 0) rfl, _, rfl, b, _, rfl, .inl (SqL.of hbg), rfl, flat_ints g, _, rfl, ?_⟩
      have e1 : (if false = true then !inV (V.int p.1) (g.map V.int) else inV (V.int p.1) (g.map V.int)) = g.contains p.1 := by rw [if_neg Bool.false_ne_true, inV_ints]
      rw [e1]
      cases hc : g.contains p.1 with
      | false =>
        rw [hc] at et
        exact iteF (iteF ⟨rfl, et, _, rfl⟩)
      | true =>
        rw [hc, Bool.true_and] at et yes
        refine iteT ⟨_, rfl, a, _, _, _, rfl, rfl, SqT.of ha, atI_nat (j := 1) rfl, _, rfl, b, _, rfl, .inl (SqL.of hbg), rfl, flat_ints g, _, rfl, ?_⟩
        have e2 : (if false = true then !inV (V.int p.2) (g.map V.int) else inV (V.int p.2) (g.map V.int)) = g.contains p.2 := by rw [if_neg Bool.false_ne_true, inV_ints]
        rw [e2]
        cases hc2 : g.contains p.2 with
        | false =>
          rw [hc2] at et
          exact iteF ⟨rfl, et, _, rfl⟩
        | true => exact iteT (yes hc2)
    · rintro σ H2 ⟨rfl, hf, u, rfl⟩
      rw [hlen, List.take_length] at hf
      rw [hf] at kQ
      exact kQ

/-! _law_same -/
def spSame : Sp := fun vs H Q _ => ∃ (a b : Addr) (ns ms : List Int) (m : Int), vs = [.ref a, .ref b, .int m] ∧ LI H a ns ∧ LI H b ms ∧ Q (.bl (risesB ns m && decide (ns = ms))) H
theorem scSame : FnScope ["found", "due", "many"] ["found", "due", "many"] (defScope sSame) := ⟨rfl, rfl, rfl, by decide +kernel, rfl, by decide +kernel, by decide +kernel⟩
theorem ok_same {f f1 : Addr} {fd fd1 : FuncData} (T : Txt K mg CE CS CQ CP CT) (F : Fun K "_law_same" "_law_same" sSame f fd) (G1 : FnOk P w K mg base CX0 1 f1 fd1 ["found", "most"] spRising) (b1 : Binds K fd1 ["found", "most"] []) (m1 : mg "_law_rising" = some (.ref f1)) (k1 : PySem.W.keepIn K (.ref f1) = true) :
    FnOk P w K mg base CX0 2 f fd ["found", "due", "many"] spSame := by
  refine F.ok scSame (fun vs H Q E h => ?_) (fun cdv A outer s H vs Q E hr h => ?_)
  · obtain ⟨a, b, ns, ms, m, rfl, _⟩ := h
    rfl
  · obtain ⟨a, b, ns, ms, m, rfl, ha, hb, kQ⟩ := h
    have hu := hr.units
    refine ⟨_, pss_one (ps_ret (pe_and (pe_call G1 hr (by rfl) m1 k1 b1 .nil pass0 (pa_cons (pv 0) (pa_cons (pv 2) pa_nil))) (pe_one (pe_cmpR (op_eqD hu) (pv 0) (pv 1) (nomark _))))), ?_⟩
    refine ⟨_, rfl, _, rfl, a, ns, m, rfl, ha, _, rfl, ?_⟩
    cases hr : risesB ns m with
    | false =>
      rw [hr] at kQ
      exact iteF kQ
    | true =>
      rw [hr, Bool.true_and] at kQ
      refine iteT ⟨_, rfl, _, rfl, _, _, den_ints ha, den_ints hb, sh_ints _, sh_ints _, ?_⟩
      rw [eqv_lints]
      exact kQ
end
end K05
namespace K05
open PySem L2 XM
section
variable {P : Program} {w : World} {K : PySem.W.Frag} {mg : Str → Option Value} {base : Heap} {CE CS CQ CP CT : Addr}

/-! called -/
def spCalled (x : Str) : Sp := fun vs H Q _ => ∃ v, vs = [v] ∧ Q (.str x) H
theorem scCalledQ : FnScope ["self"] ["self"] (defScope sCalledQ) := ⟨rfl, rfl, rfl, by decide +kernel, rfl, by decide +kernel, by decide +kernel⟩
theorem scCalledP : FnScope ["self"] ["self"] (defScope sCalledP) := ⟨rfl, rfl, rfl, by decide +kernel, rfl, by decide +kernel, by decide +kernel⟩
theorem ok_calledQ {f : Addr} {fd : FuncData} (F : Fun K "called" "BadQuarters.called" sCalledQ f fd) : FnOk P w K mg base CX0 1 f fd ["self"] (spCalled "BadQuarters") := by
  refine F.ok scCalledQ (fun vs H Q E h => ?_) (fun cdv A outer s H vs Q E hr h => ?_)
  · obtain ⟨v, rfl, _⟩ := h
    rfl
  · obtain ⟨v, rfl, k⟩ := h
    exact ⟨_, pss_one (ps_ret pe_str), k⟩
theorem ok_calledP {f : Addr} {fd : FuncData} (F : Fun K "called" "BadParting.called" sCalledP f fd) : FnOk P w K mg base CX0 1 f fd ["self"] (spCalled "BadParting") := by
  refine F.ok scCalledP (fun vs H Q E h => ?_) (fun cdv A outer s H vs Q E hr h => ?_)
  · obtain ⟨v, rfl, _⟩ := h
    rfl
  · obtain ⟨v, rfl, k⟩ := h
    exact ⟨_, pss_one (ps_ret pe_str), k⟩

/-! bools as data -/
theorem den_bools {H : Hp} {l : Addr} {bs : List Bool} (hl : H l = some (.lst (bs.map V.bl))) : Den K H (.ref l) (.list (bs.map .bool)) := by
  refine .lst (SqL.of hl) (by rw [List.length_map, List.length_map]) fun i x d h1 h2 => ?_
  rw [List.getElem?_map] at h1 h2
  cases e : bs[i]? with
  | none => rw [e] at h1; cases h1
  | some n =>
    rw [e] at h1 h2
    cases h1
    cases h2
    exact .bl _

/-! _law_refused -/
def spRefused (CP CQ : Addr) : Sp := fun vs H Q _ => ∃ (e C : Addr) (x : Str), vs = [.ref e, .str x] ∧ H e = some (excO e (.ref C)) ∧ ((C = CP ∧ x = "BadParting") ∨ (C = CQ ∧ x = "BadQuarters")) ∧ ∀ H', Same H H' → Q (.bl true) H'
theorem scRefused : FnScope ["caught", "word", "kinds"] ["caught", "word"] (defScope sRefused) := ⟨rfl, rfl, rfl, by decide +kernel, rfl, by decide +kernel, by decide +kernel⟩
theorem ok_refused {f f1 f2 : Addr} {fd fd1 fd2 : FuncData} (T : Txt K mg CE CS CQ CP CT) (F : Fun K "_law_refused" "_law_refused" sRefused f fd)
    (G1 : FnOk P w K mg base CX0 1 f1 fd1 ["self"] (spCalled "BadParting")) (b1 : Binds K fd1 ["self"] []) (hf1 : PySem.W.findIn K (.ref CP) "called" = some (some (.ref f1))) (ht1 : PySem.W.isFn K (.ref f1) = true) (k1 : PySem.W.keepIn K (.ref f1) = true)
    (G2 : FnOk P w K mg base CX0 1 f2 fd2 ["self"] (spCalled "BadQuarters")) (b2 : Binds K fd2 ["self"] []) (hf2 : PySem.W.findIn K (.ref CQ) "called" = some (some (.ref f2))) (ht2 : PySem.W.isFn K (.ref f2) = true) (k2 : PySem.W.keepIn K (.ref f2) = true) :
    FnOk P w K mg base CX0 2 f fd ["caught", "word"] (spRefused CP CQ) := by
  refine F.ok scRefused (fun vs H Q E h => ?_) (fun cdv A outer s H vs Q E hr h => ?_)
  · obtain ⟨e, C, x, rfl, _⟩ := h
    rfl
  · obtain ⟨e, C, x, rfl, he, hC, kQ⟩ := h
    have hu := hr.units
    have n1 : decide (V.str ("BadParting" : Str) = V.str ("BadQuarters" : Str)) = false := by decide +kernel
    have n2 : decide (V.str ("BadQuarters" : Str) = V.str ("BadParting" : Str)) = false := by decide +kernel
    rcases hC with ⟨rfl, rfl⟩ | ⟨rfl, rfl⟩
    · refine ⟨_, pss_cons (ps_if (pw_or (pt_not (pt_val (pe_callB call_isiE (by rfl) T.isi boot_isi (pa_cons (pv 0) (pa_cons (pe_glob (v := .ref CE) (by rfl) T.mgCE (by rfl)) pa_nil)))))
          (pw_or (pt_not (pt_val (pe_callB call_isiE (by rfl) T.isi boot_isi (pa_cons (pv 0) (pa_cons (pe_bltn (v := .ty "ValueError") (by rfl) T.verr boot_verr (by rfl)) pa_nil)))))
          (pw_or1 (pt_val (pe_callB call_isiE (by rfl) T.isi boot_isi (pa_cons (pv 0) (pa_cons (pe_glob (v := .ref CS) (by rfl) T.mgBS (by rfl)) pa_nil))))))).pt (pss_one (ps_ret pe_bl)) pss_nil)
        (pss_cons (ps_set (i := 2) scRefused.nd rfl (Or.inl rfl) (pe_lst (pa_cons (pe_callB call_isiE (by rfl) T.isi boot_isi (pa_cons (pv 0) (pa_cons (pe_glob (v := .ref C) (by rfl) T.mgBP (by rfl)) pa_nil)))
          (pa_cons (pe_callB call_isiE (by rfl) T.isi boot_isi (pa_cons (pv 0) (pa_cons (pe_glob (v := .ref CQ) (by rfl) T.mgBQ (by rfl)) pa_nil))) pa_nil))))
        (pss_one (ps_ret (pe_and (pe_cmpR op_eq (pe_methE0 (pv 0) T.askP hf1 ht1 k1 G1 hr b1 .nil pass0) (pv 1) (nomark _)) (pe_one (pe_cmpR (op_eqD hu) (pv 2) (pe_lst (pa_cons (pe_cmpR op_eq (pv 1) pe_str (nomark _)) (pa_cons (pe_cmpR op_eq (pv 1) pe_str (nomark _)) pa_nil))) (nomark _))))))), ?_⟩
      refine ⟨_, rfl, e, C, _, _, _, rfl, rfl, he, T.askP, T.pE, _, rfl, ?_⟩
      refine iteF ⟨_, rfl, e, C, _, _, _, rfl, rfl, he, T.askP, T.pV, _, rfl, ?_⟩
      refine iteF ⟨_, rfl, e, C, _, _, _, rfl, rfl, he, T.askP, T.pS, _, rfl, ?_⟩
      refine iteF ⟨_, rfl, e, C, _, _, _, rfl, rfl, he, T.askP, kit_same _, _, rfl, e, C, _, _, _, rfl, rfl, he, T.askP, T.pQ, by show 2 ≤ sizeLine; decide, fun kd hkd => ?_⟩
      have s1 : Same H (upd H kd (.lst [V.bl true, V.bl false])) := Same.rfl'.new hkd
      refine ⟨_, rfl, e, rfl, s1 _ _ he, _, rfl, _, rfl, rfl, _, rfl, ?_⟩
      rw [decide_eq_true rfl]
      refine iteT ⟨_, rfl, _, rfl, rfl, _, rfl, rfl, by show 2 ≤ sizeLine; decide, fun k2' hk2 => ?_⟩
      rw [decide_eq_true rfl, n1]
      refine ⟨_, _, den_bools (bs := [true, false]) ((Same.rfl'.new hk2) _ _ upd_same), den_bools (bs := [true, false]) upd_same, rfl, rfl, ?_⟩
      exact kQ _ (s1.tr (Same.rfl'.new hk2))
    · refine ⟨_, pss_cons (ps_if (pw_or (pt_not (pt_val (pe_callB call_isiE (by rfl) T.isi boot_isi (pa_cons (pv 0) (pa_cons (pe_glob (v := .ref CE) (by rfl) T.mgCE (by rfl)) pa_nil)))))
          (pw_or (pt_not (pt_val (pe_callB call_isiE (by rfl) T.isi boot_isi (pa_cons (pv 0) (pa_cons (pe_bltn (v := .ty "ValueError") (by rfl) T.verr boot_verr (by rfl)) pa_nil)))))
          (pw_or1 (pt_val (pe_callB call_isiE (by rfl) T.isi boot_isi (pa_cons (pv 0) (pa_cons (pe_glob (v := .ref CS) (by rfl) T.mgBS (by rfl)) pa_nil))))))).pt (pss_one (ps_ret pe_bl)) pss_nil)
        (pss_cons (ps_set (i := 2) scRefused.nd rfl (Or.inl rfl) (pe_lst (pa_cons (pe_callB call_isiE (by rfl) T.isi boot_isi (pa_cons (pv 0) (pa_cons (pe_glob (v := .ref CP) (by rfl) T.mgBP (by rfl)) pa_nil)))
          (pa_cons (pe_callB call_isiE (by rfl) T.isi boot_isi (pa_cons (pv 0) (pa_cons (pe_glob (v := .ref C) (by rfl) T.mgBQ (by rfl)) pa_nil))) pa_nil))))
        (pss_one (ps_ret (pe_and (pe_cmpR op_eq (pe_methE0 (pv 0) T.askQ hf2 ht2 k2 G2 hr b2 .nil pass0) (pv 1) (nomark _)) (pe_one (pe_cmpR (op_eqD hu) (pv 2) (pe_lst (pa_cons (pe_cmpR op_eq (pv 1) pe_str (nomark _)) (pa_cons (pe_cmpR op_eq (pv 1) pe_str (nomark _)) pa_nil))) (nomark _))))))), ?_⟩
      refine ⟨_, rfl, e, C, _, _, _, rfl, rfl, he, T.askQ, T.qE, _, rfl, ?_⟩
      refine iteF ⟨_, rfl, e, C, _, _, _, rfl, rfl, he, T.askQ, T.qV, _, rfl, ?_⟩
      refine iteF ⟨_, rfl, e, C, _, _, _, rfl, rfl, he, T.askQ, T.qS, _, rfl, ?_⟩
      refine iteF ⟨_, rfl, e, C, _, _, _, rfl, rfl, he, T.askQ, T.qP, _, rfl, e, C, _, _, _, rfl, rfl, he, T.askQ, kit_same _, by show 2 ≤ sizeLine; decide, fun kd hkd => ?_⟩
      have s1 : Same H (upd H kd (.lst [V.bl false, V.bl true])) := Same.rfl'.new hkd
      refine ⟨_, rfl, e, rfl, s1 _ _ he, _, rfl, _, rfl, rfl, _, rfl, ?_⟩
      rw [decide_eq_true rfl]
      refine iteT ⟨_, rfl, _, rfl, rfl, _, rfl, rfl, by show 2 ≤ sizeLine; decide, fun k2' hk2 => ?_⟩
      rw [decide_eq_true rfl, n2]
      refine ⟨_, _, den_bools (bs := [false, true]) ((Same.rfl'.new hk2) _ _ upd_same), den_bools (bs := [false, true]) upd_same, rfl, rfl, ?_⟩
      exact kQ _ (s1.tr (Same.rfl'.new hk2))

/-! _law_caught -/
def spCaught (CT CP CQ : Addr) : Sp := fun vs H Q _ => ∃ (p l2 : Addr) (q : Int) (ys : List V) (ps : PP) (l : Addr), TownAt CT H p l2 q ys ∧ PV H ys ps ∧ fits q ps = true ∧
  ((∃ (xs : List V) (nss : List (List Int)), vs = [.int 0, .ref p, .ref l] ∧ H l = some (.lst xs) ∧ LS H xs nss ∧ nss.flatten.length ≤ 1000 ∧ nss.length ≤ 1000 ∧
    (isPart nss q = true → ∀ (H' : Hp) (t d : Addr), Same H H' → H' t = some (.tup [.non, .ref d]) → LI H' d (filtR ps.length (betwP nss ps)) → Q (.ref t) H') ∧
    (isPart nss q = false → ∀ (H' : Hp) (t e : Addr), Same H H' → H' t = some (.tup [.ref e, .non]) → H' e = some (excO e (.ref CP)) → Q (.ref t) H')) ∨
   (∃ (ns : List Int), vs = [.int 1, .ref p, .ref l] ∧ LI H l ns ∧ ns.length ≤ 1000 ∧ someQ ns q = false ∧ ∀ (H' : Hp) (t e : Addr), Same H H' → H' t = some (.tup [.ref e, .non]) → H' e = some (excO e (.ref CQ)) → Q (.ref t) H'))
theorem scCaught : FnScope ["way", "town", "things", "caught", "told", "e"] ["way", "town", "things"] (defScope sCaught) := ⟨rfl, rfl, rfl, by decide +kernel, rfl, by decide +kernel, by decide +kernel⟩
theorem ok_caught {f f1 f2 : Addr} {fd fd1 fd2 : FuncData} (T : Txt K mg CE CS CQ CP CT) (F : Fun K "_law_caught" "_law_caught" sCaught f fd)
    (G1 : FnOk P w K mg base (CXE P w) 5 f1 fd1 ["town", "parting"] (spBetween CT CP)) (b1 : Binds K fd1 ["town", "parting"] []) (m1 : mg "bridges_between" = some (.ref f1)) (k1 : PySem.W.keepIn K (.ref f1) = true)
    (G2 : FnOk P w K mg base (CXE P w) 4 f2 fd2 ["town", "quarters"] (spWithin CT CQ)) (b2 : Binds K fd2 ["town", "quarters"] []) (m2 : mg "bridges_within" = some (.ref f2)) (k2 : PySem.W.keepIn K (.ref f2) = true) :
    FnOk P w K mg base CX0 6 f fd ["way", "town", "things"] (spCaught CT CP CQ) := by
  refine F.ok scCaught (fun vs H Q E h => ?_) (fun cdv A outer s H vs Q E hr h => ?_)
  · obtain ⟨p, l2, q, ys, ps, l, _, _, _, ⟨_, _, rfl, _⟩ | ⟨_, rfl, _⟩⟩ := h <;> rfl
  · obtain ⟨p, l2, q, ys, ps, l, ht, hp, hf, h⟩ := h
    have hr4 := hr.mono (show 4 ≤ 5 by omega)
    refine ⟨_, pss_cons (ps_set (i := 3) scCaught.nd rfl (Or.inl rfl) pe_non)
      (pss_cons (ps_set (i := 4) scCaught.nd rfl (Or.inl rfl) pe_non)
      (pss_cons (ps_try (i := 5) rfl rfl rfl (fun pn σ₀ E => pss_one (ps_if (pt_cmpR op_eq (pv 0) pe_int (nomark _))
          (pss_one (ps_set (i := 4) scCaught.nd rfl (Or.inl rfl) (pe_callAt G1 hr (by rfl) m1 k1 b1 .nil passTry (pa_cons (pv 1) (pa_cons (pv 2) pa_nil)))))
          (pss_one (ps_set (i := 4) scCaught.nd rfl (Or.inl rfl) (pe_callAt G2 hr4 (by rfl) m2 k2 b2 .nil passTry (pa_cons (pv 1) (pa_cons (pv 2) pa_nil)))))))
        (fun v => pss_one (ps_set (i := 3) scCaught.nd rfl (Or.inl rfl) (pv 5))) scCaught.nd rfl rfl (by rfl) T.mgCE T.nmE)
      (pss_one (ps_ret (pe_tup (pa_cons (pv 3) (pa_cons (pv 4) pa_nil))))))), ?_⟩
    rcases h with ⟨xs, nss, rfl, hl, hx, hn, hn2, kQ, kE⟩ | ⟨ns, rfl, hl, hn, hs, kE⟩
    · refine ⟨_, rfl, rfl, _, rfl, ?_⟩
      rw [decide_eq_true rfl]
      refine iteT ⟨rfl, _, rfl, _, rfl, p, l2, q, ys, ps, l, xs, nss, rfl, ht, hp, hf, hl, hx, hn, hn2, fun hb H1 d s1 _ hd => ?_, fun hb H1 s1 => ?_⟩
      · refine ⟨_, rfl, _, rfl, by show 2 ≤ sizeLine; decide, fun t htn => ?_⟩
        have t1 : Same H1 (upd H1 t (.tup [.non, .ref d])) := Same.rfl'.new htn
        exact kQ hb _ t d (s1.tr t1) upd_same (t1 _ _ hd)
      · refine ⟨CP, rfl, T.subP, fun e he => ⟨_, rfl, ?_⟩⟩
        refine ⟨_, rfl, _, rfl, by show 2 ≤ sizeLine; decide, fun t htn => ?_⟩
        have t1 : Same H1 (upd H1 e (excO e (.ref CP))) := Same.rfl'.new he
        have t2 : Same (upd H1 e (excO e (.ref CP))) (upd (upd H1 e (excO e (.ref CP))) t (.tup [.ref e, .non])) := Same.rfl'.new htn
        exact kE hb _ t e ((s1.tr t1).tr t2) upd_same (t2 _ _ upd_same)
    · refine ⟨_, rfl, rfl, _, rfl, ?_⟩
      rw [show decide (V.int 1 = V.int 0) = false from by decide]
      refine iteF ⟨rfl, _, rfl, _, rfl, p, l2, q, ys, ps, l, ns, rfl, ht, hp, hf, hl, hn, fun hb => ?_, fun hb H1 s1 => ?_⟩
      · rw [hs] at hb
        cases hb
      · refine ⟨CQ, rfl, T.subQ, fun e he => ⟨_, rfl, ?_⟩⟩
        refine ⟨_, rfl, _, rfl, by show 2 ≤ sizeLine; decide, fun t htn => ?_⟩
        have t1 : Same H1 (upd H1 e (excO e (.ref CQ))) := Same.rfl'.new he
        have t2 : Same (upd H1 e (excO e (.ref CQ))) (upd (upd H1 e (excO e (.ref CQ))) t (.tup [.ref e, .non])) := Same.rfl'.new htn
        exact kE _ t e ((s1.tr t1).tr t2) upd_same (t2 _ _ upd_same)
end
end K05
namespace L2
open PySem PySem.Spec PyProof.Rows
/-- a comprehension by a word of what is laid -/
theorem comp_gen {J : It} {n : Nat} {H1 : Hp} {D : Addr} {g : TG} {te : TE} {k : Nat} {cs : List Nat} {σ : St} {Q : VK} (Pv : Nat → List V → Hp → Prop) (h0 : Pv 0 [] (upd H1 D (.lst []))) (hP : ∀ i ys H, i < n → Pv i ys H → ys.length < sizeLine)
    (step : ∀ i ys H, i < n → Pv i ys H → J.go i H ∧ ∀ (K1 : VK), (∀ y H4, H4 D = some (.lst ys) → Pv (i + 1) (ys ++ [y]) (upd H4 D (.lst (ys ++ [y]))) → K1 y H4) →
      ∀ x H', J.yld i H x H' → g x (capv k cs σ) H' fun σ2 H2 => σ2.drop k = cs.map (fun i => σ.getD i none) ∧ te σ2 H2 K1)
    (fin : ∀ ys H, Pv n ys H → J.stop n H ∧ Q (.ref D) H) : CompW J k cs σ g tNoIf te Q H1 D := by
  refine ⟨fun i m ys H => m = n - i ∧ i ≤ n ∧ Pv i ys H, ⟨n, by simp, Nat.zero_le _, h0⟩, ?_⟩
  rintro i m ys H ⟨rfl, hi, p⟩
  by_cases hlt : i < n
  · obtain ⟨go, st⟩ := step i ys H hlt p
    refine .inr ⟨go, fun x H' y => st (fun y H4 => H4 D = some (.lst ys) ∧ ys.length < sizeLine ∧ ∃ m', m' < n - i ∧ m' = n - (i + 1) ∧ i + 1 ≤ n ∧ Pv (i + 1) (ys ++ [y]) (upd H4 D (.lst (ys ++ [y])))) (fun y H4 e q => ?_) x H' y⟩
    exact ⟨e, hP i ys H hlt p, n - (i + 1), by omega, rfl, hlt, q⟩
  · have e : i = n := by omega
    subst e
    exact .inl (fin ys H p)
/-- a comprehension over range(n) that keeps the numbers with p -/
theorem comp_range {n : Nat} {H1 : Hp} {D : Addr} {g : TG} {tc : TT} {te : TE} {k : Nat} {cs : List Nat} {σ : St} {Q : VK} (p : Nat → Bool) (hD : H1 D = none) (hn : n ≤ 1000)
    (step : ∀ i H, i < n → Same H1 H → ∀ (K1 : VK) (K2 : Hp → Prop), (∀ H4, Same H H4 → p i = true → K1 (.int (i : Int)) H4) → (∀ H3, Same H H3 → p i = false → K2 H3) →
      g (.int (0 + (i : Int))) (capv k cs σ) H fun σ2 H2 => σ2.drop k = cs.map (fun i => σ.getD i none) ∧ tc σ2 H2 fun b H3 => if b = true then te σ2 H3 K1 else K2 H3)
    (fin : ∀ H, Same H1 H → H D = some (.lst ((K05.filtR n p).map V.int)) → Q (.ref D) H) : CompW (Itr 0 n) k cs σ g tc te Q H1 D := by
  refine comp_ext (n := n) hD (fun i => (K05.filtR i p).map V.int) rfl (fun i hi => ?_) (fun i H hi sm hDi => ⟨hi, fun K1 K2 k1 k2 x H' y => ?_⟩) fun H sm hDi => ⟨Nat.le_refl _, fin H sm hDi⟩
  · rw [List.length_map]
    have := K05.filtR_len i p
    exact small1000 (by omega)
  · obtain ⟨rfl, rfl⟩ := y
    refine step i H' hi sm K1 K2 (fun H4 s4 hp => k1 _ _ s4 ?_) fun H3 s3 hp => k2 _ s3 ?_
    · rw [K05.filtR_succ, if_pos hp, List.map_append]
      rfl
    · rw [K05.filtR_succ, if_neg (by rw [hp]; exact Bool.false_ne_true), List.append_nil]
end L2
namespace K05
open PySem L2 XM
/-! plain mathematics -/
theorem filtR_rises (n : Nat) (p : Nat → Bool) : risesB (filtR n p) (n : Int) = true := by
  refine risesB_iff.mpr ⟨?_, fun x hx => ?_⟩
  · unfold filtR
    rw [List.pairwise_map]
    exact (List.pairwise_lt_range.filter _).imp fun h => by omega
  · unfold filtR at hx
    obtain ⟨k, hk, rfl⟩ := List.mem_map.mp hx
    have := List.mem_range.mp (List.mem_filter.mp hk).1
    omega
theorem part_one {nss : List (List Int)} {q : Int} {p : Int × Int} (ok : PartOk nss q) (hp : okPair q p = true) : (!decide (pl nss p.1 = pl nss p.2)) = !inOne nss p := by
  unfold okPair at hp
  simp only [Bool.and_eq_true, decide_eq_true_eq] at hp
  obtain ⟨g1, h1, m1⟩ := pl_at (ok.has p.1 hp.1.1 hp.1.2)
  obtain ⟨g2, h2, m2⟩ := pl_at (ok.has p.2 hp.2.1.1 hp.2.1.2)
  have uniq : ∀ {x : Int} {i j : Nat} {g g' : List Int}, nss[i]? = some g → nss[j]? = some g' → x ∈ g → x ∈ g' → i = j := fun {x i j g g'} hi hj hx hx' => by
    rcases Nat.lt_trichotomy i j with h | h | h
    · exact (nodup_apart ok.nd hj hi hx' hx h).elim
    · exact h
    · exact (nodup_apart ok.nd hi hj hx hx' h).elim
  congr 1
  rw [Bool.eq_iff_iff, decide_eq_true_eq]
  unfold inOne
  rw [List.any_eq_true]
  constructor
  · intro e
    rw [← e, h1] at h2
    cases h2
    exact ⟨g1, List.mem_of_getElem? h1, by simp [m1, m2]⟩
  · rintro ⟨g, hg, hb⟩
    simp only [Bool.and_eq_true, List.contains_iff_mem] at hb
    obtain ⟨j, hj, e⟩ := List.mem_iff_getElem.mp hg
    have hj' : nss[j]? = some g := by rw [List.getElem?_eq_getElem hj, e]
    rw [uniq h1 hj' m1 hb.1, uniq h2 hj' m2 hb.2]
theorem betw_eq {nss : List (List Int)} {q : Int} {ps : PP} (ok : PartOk nss q) (hf : ∀ p ∈ ps, okPair q p = true) : filtR ps.length (betwP nss ps) = filtR ps.length (fun k => !inOne nss (ps.getD k (0, 0))) := by
  refine filtR_congr fun k hk => ?_
  unfold betwP
  have e : ps[k]? = some ps[k] := List.getElem?_eq_getElem hk
  rw [getD_at e]
  exact part_one ok (hf _ (List.getElem_mem hk))
section
variable {P : Program} {w : World} {K : PySem.W.Frag} {mg : Str → Option Value} {base : Heap} {CE CS CQ CP CT : Addr}
/-! lists of lists, pairs, as data -/
def ld (g : List Int) : PyData := .list (g.map .int)
theorem den_lists {H : Hp} {l : Addr} {xs : List V} {nss : List (List Int)} (hl : H l = some (.lst xs)) (h : LS H xs nss) : Den K H (.ref l) (.list (nss.map ld)) := by
  refine .lst (SqL.of hl) (by rw [List.length_map]; exact h.length) fun i x d h1 h2 => ?_
  obtain ⟨g, e, a, rfl, q⟩ := h.get h1
  rw [List.getElem?_map, e] at h2
  cases h2
  exact den_ints q
theorem lay_lists : ∀ nss : List (List Int), PyData.canLayAll0 (nss.map ld) = true ∧ PyData.depthAll (nss.map ld) ≤ 1
  | [] => by simp [PyData.canLayAll0, PyData.depthAll]
  | g :: r => by
    obtain ⟨h1, h2⟩ := lay_lists r
    obtain ⟨a1, a2⟩ := lay_ints g
    have d1 : (ld g).depth = 1 := by simp [ld, PyData.depth, a2]
    have c1 : (ld g).canLay0 = true := by simp [ld, PyData.canLay0, a1]
    rw [List.map_cons]
    simp only [PyData.canLayAll0, PyData.depthAll, h1, c1, d1, Bool.and_self, true_and]
    omega
theorem sh_lists (nss : List (List Int)) : SeqAt.shaped (.list (nss.map ld)) = true := by
  have h := lay_lists nss
  unfold SeqAt.shaped
  rw [Bool.and_eq_true]
  refine ⟨by simp [PyData.canLay0, h.1], decide_eq_true ?_⟩
  have := h.2
  simp only [PyData.depth]
  omega
theorem eqv_lists : ∀ nss : List (List Int), PyData.eqvAll (nss.map ld) (nss.map ld) = true
  | [] => rfl
  | g :: r => by
    rw [List.map_cons, PyData.eqvAll, eqv_lists r]
    have : PyData.eqv (ld g) (ld g) = true := by
      unfold ld
      rw [eqv_lints]
      simp
    rw [this]
    rfl
theorem eqv_lists' (nss : List (List Int)) : PyData.eqv (.list (nss.map ld)) (.list (nss.map ld)) = true := by
  have := eqv_lists nss
  simpa [PyData.eqv] using this
def pd (p : Int × Int) : PyData := .tuple [.int p.1, .int p.2]
theorem den_pair {H : Hp} {x : V} {p : Int × Int} (h : P2 H x p) : Den K H x (pd p) := by
  obtain ⟨a, rfl, e⟩ := h
  refine .tup (SqT.of e) rfl fun i x d h1 h2 => ?_
  match i, h1, h2 with
  | 0, h1, h2 => cases h1; cases h2; exact .int _
  | 1, h1, h2 => cases h1; cases h2; exact .int _
  | n + 2, h1, _ => simp at h1
theorem den_pairs {H : Hp} {l : Addr} {xs : List V} {ps : PP} (hl : H l = some (.lst xs)) (h : PV H xs ps) : Den K H (.ref l) (.list (ps.map pd)) := by
  refine .lst (SqL.of hl) (by rw [List.length_map]; exact h.length) fun i x d h1 h2 => ?_
  obtain ⟨p, e, r⟩ := h.get h1
  rw [List.getElem?_map, e] at h2
  cases h2
  exact den_pair r
theorem lay_pairs : ∀ ps : PP, PyData.canLayAll0 (ps.map pd) = true ∧ PyData.depthAll (ps.map pd) ≤ 1
  | [] => by simp [PyData.canLayAll0, PyData.depthAll]
  | p :: ps => by
    obtain ⟨h1, h2⟩ := lay_pairs ps
    have d1 : (pd p).depth = 1 := by simp [pd, PyData.depth, PyData.depthAll]
    have c1 : (pd p).canLay0 = true := by simp [pd, PyData.canLay0, PyData.canLayAll0]
    rw [List.map_cons]
    simp only [PyData.canLayAll0, PyData.depthAll, h1, c1, d1, Bool.and_self, true_and]
    omega
theorem sh_pairs (ps : PP) : SeqAt.shaped (.list (ps.map pd)) = true := by
  have h := lay_pairs ps
  unfold SeqAt.shaped
  rw [Bool.and_eq_true]
  refine ⟨by simp [PyData.canLay0, h.1], decide_eq_true ?_⟩
  have := h.2
  simp only [PyData.depth]
  omega
theorem eqv_pair (p : Int × Int) : PyData.eqv (pd p) (pd p) = true := by simp [pd, PyData.eqv, PyData.eqvAll]
theorem eqv_pairs : ∀ ps : PP, PyData.eqvAll (ps.map pd) (ps.map pd) = true
  | [] => rfl
  | p :: ps => by
    rw [List.map_cons, PyData.eqvAll, eqv_pair, eqv_pairs ps]
    rfl
theorem eqv_pairs' (ps : PP) : PyData.eqv (.list (ps.map pd)) (.list (ps.map pd)) = true := by
  have := eqv_pairs ps
  simpa [PyData.eqv] using this

/-! law -/
structure E5 (K : PySem.W.Frag) (CT : Addr) (H : Hp) (sc lp p l2 la : Addr) (ns : List Int) (q : Int) (xs xp : List V) (ps : PP) (nss : List (List Int)) : Prop where
  sc : SqL K H sc (ns.map V.int)
  lp : H lp = some (.lst xs)
  pv : PV H xs ps
  tw : TownAt CT H p l2 q xs
  la : H la = some (.lst xp)
  ls : LS H xp nss
theorem E5.same {H H' : Hp} {sc lp p l2 la : Addr} {ns : List Int} {q : Int} {xs xp : List V} {ps : PP} {nss : List (List Int)} (e : E5 K CT H sc lp p l2 la ns q xs xp ps nss) (s : Same H H') : E5 K CT H' sc lp p l2 la ns q xs xp ps nss :=
  ⟨s.seq e.sc, s _ _ e.lp, e.pv.same s, e.tw.same s, s _ _ e.la, e.ls.same s⟩
def spLaw (K : PySem.W.Frag) : Sp := fun vs H Q _ => ∃ (a : Addr) (ns : List Int), vs = [.ref a] ∧ SqL K H a (ns.map V.int) ∧ ∀ H', Q (.bl true) H'
theorem scLaw : FnScope ["script", "quarters", "pairs", "town", "number", "parts", "handed", "told", "due", "some", "bad"] ["script"] (defScope sLaw) := ⟨rfl, rfl, rfl, by decide +kernel, rfl, by decide +kernel, by decide +kernel⟩
theorem pow61 : (0 : Int) < 10 ^ (61 : Int).toNat := by decide +kernel
theorem cpow61 : CPow 10 61 := ⟨by decide, by decide, by decide⟩
theorem passE0 {X : Cx} : Passes (CXE X.prog X.w) X E0 := fun _ _ _ _ _ _ _ ⟨_, _, _, _, _, h⟩ => h.elim
structure Fs (P : Program) (w : World) (K : PySem.W.Frag) (mg : Str → Option Value) (base : Heap) (CT CP CQ fI fA fT fP fC fG fL fO fS fR fW fB : Addr) (dI dA dT dP dC dG dL dO dS dR dW dB : FuncData) : Prop where
  gI : FnOk P w K mg base CX0 4 fI dI ["self", "quarters", "bridges"] (spInit CT)
  bI : Binds K dI ["self", "quarters", "bridges"] []
  mkT : Mk K CT fI
  gA : FnOk P w K mg base CX0 1 fA dA ["script", "k"] (spAt K)
  bA : Binds K dA ["script", "k"] []
  mA : mg "_law_at" = some (.ref fA)
  kA : PySem.W.keepIn K (.ref fA) = true
  gT : FnOk P w K mg base CX0 2 fT dT ["script"] (spTown K)
  bT : Binds K dT ["script"] []
  mT : mg "_law_town" = some (.ref fT)
  kT : PySem.W.keepIn K (.ref fT) = true
  gP : FnOk P w K mg base CX0 2 fP dP ["script", "quarters"] (spParting K)
  bP : Binds K dP ["script", "quarters"] []
  mP : mg "_law_parting" = some (.ref fP)
  kP : PySem.W.keepIn K (.ref fP) = true
  gC : FnOk P w K mg base CX0 2 fC dC ["parts", "quarters", "cell"] spChanged
  bC : Binds K dC ["parts", "quarters", "cell"] []
  mC : mg "_law_changed" = some (.ref fC)
  kC : PySem.W.keepIn K (.ref fC) = true
  gG : FnOk P w K mg base CX0 6 fG dG ["way", "town", "things"] (spCaught CT CP CQ)
  bG : Binds K dG ["way", "town", "things"] []
  mG : mg "_law_caught" = some (.ref fG)
  kG : PySem.W.keepIn K (.ref fG) = true
  gL : FnOk P w K mg base CX0 2 fL dL ["parts", "quarters"] spLPart
  bL : Binds K dL ["parts", "quarters"] []
  mL : mg "_law_is_parting" = some (.ref fL)
  kL : PySem.W.keepIn K (.ref fL) = true
  gO : FnOk P w K mg base CX0 1 fO dO ["parts", "pair"] spOne
  bO : Binds K dO ["parts", "pair"] []
  mO : mg "_law_within_one" = some (.ref fO)
  kO : PySem.W.keepIn K (.ref fO) = true
  gS : FnOk P w K mg base CX0 2 fS dS ["found", "due", "many"] spSame
  bS : Binds K dS ["found", "due", "many"] []
  mS : mg "_law_same" = some (.ref fS)
  kS : PySem.W.keepIn K (.ref fS) = true
  gR : FnOk P w K mg base CX0 2 fR dR ["caught", "word"] (spRefused CP CQ)
  bR : Binds K dR ["caught", "word"] []
  mR : mg "_law_refused" = some (.ref fR)
  kR : PySem.W.keepIn K (.ref fR) = true
  gW : FnOk P w K mg base (CXE P w) 4 fW dW ["town", "quarters"] (spWithin CT CQ)
  bW : Binds K dW ["town", "quarters"] []
  mW : mg "bridges_within" = some (.ref fW)
  kW : PySem.W.keepIn K (.ref fW) = true
  gB : FnOk P w K mg base CX0 1 fB dB ["numbers", "most", "cell"] spSpoiled
  bB : Binds K dB ["numbers", "most", "cell"] []
  mB : mg "_law_spoiled" = some (.ref fB)
  kB : PySem.W.keepIn K (.ref fB) = true
def someP (n : Int) (k : Nat) : Bool := decide ((0 : Int) < (n / ((k : Int) + 7) + (k : Int)) % 3)
theorem ok_law {f fI fA fT fP fC fG fL fO fS fR fW fB : Addr} {fd dI dA dT dP dC dG dL dO dS dR dW dB : FuncData} (T : Txt K mg CE CS CQ CP CT) (F : Fun K "law" "law" sLaw f fd) (S : Fs P w K mg base CT CP CQ fI fA fT fP fC fG fL fO fS fR fW fB dI dA dT dP dC dG dL dO dS dR dW dB) :
    FnOk P w K mg base CX0 7 f fd ["script"] (spLaw K) := by
  refine F.ok scLaw (fun vs H Q E h => ?_) (fun cdv A outer s H vs Q E hr h => ?_)
  · obtain ⟨a, ns, rfl, _⟩ := h
    rfl
  · obtain ⟨sc, ns, rfl, hS, kQ⟩ := h
    have hu := hr.units
    have r1 := hr.mono (j := 1) (by decide)
    have r2 := hr.mono (j := 2) (by decide)
    have r4 := hr.mono (j := 4) (by decide)
    have r5 := hr.mono (j := 5) (by decide)
    have ndP : ((["part"] : List Str) ++ ([] : List Str)).Nodup := by decide +kernel
    have ndK : ((["k"] : List Str) ++ (["pairs", "parts"] : List Str)).Nodup := by decide +kernel
    have ndQ : ((["quarter"] : List Str) ++ (["number"] : List Str)).Nodup := by decide +kernel
    have ndS : ((["k"] : List Str) ++ (["pairs", "some"] : List Str)).Nodup := by decide +kernel
    refine ⟨_, pss_cons (ps_asg (pe_call S.gT r2 (by rfl) S.mT S.kT S.bT .nil pass0 (pa_cons (pv 0) pa_nil)) (pg_tup (n := 2) rfl (pgs_cons (pg_name (i := 1) scLaw.nd rfl (Or.inl rfl)) (pgs_cons (pg_name (i := 2) scLaw.nd rfl (Or.inr rfl)) pgs_nil))))
      (pss_cons (ps_set (i := 3) scLaw.nd rfl (Or.inl rfl) (pe_make S.mkT S.gI r5 (by rfl) T.mgT S.bI .nil pass0 (pa_cons (pv 1) (pa_cons (pe_callTy call_list_of (by rfl) T.list bt_list (pa_cons (pv 2) pa_nil)) pa_nil))))
      (pss_cons (ps_set (i := 4) scLaw.nd rfl (Or.inr rfl) (pe_op op_mod (pe_op op_mul (pe_call S.gA r1 (by rfl) S.mA S.kA S.bA .nil pass0 (pa_cons (pv 0) (pa_cons pe_int pa_nil))) pe_int) (pe_op op_pow pe_int pe_int)))
      (pss_cons (ps_set (i := 5) scLaw.nd rfl (Or.inr rfl) (pe_call S.gC r2 (by rfl) S.mC S.kC S.bC .nil pass0 (pa_cons (pe_call S.gP r2 (by rfl) S.mP S.kP S.bP .nil pass0 (pa_cons (pv 0) (pa_cons (pv 1) pa_nil))) (pa_cons (pv 1) (pa_cons (pv 4) pa_nil)))))
      (pss_cons (ps_comp (i := 6) (own := ["part"]) (caps := []) (cs := []) (sc := defScope sLaw) ⟨rfl, rfl, by decide +kernel, by decide +kernel, by decide +kernel, by decide +kernel, rfl⟩ rfl scLaw.nd rfl rfl rfl
        (pi_list (pv 5)) (fun _ _ _ _ _ => pg_name (i := 0) ndP rfl (Or.inl rfl) (.inr rfl)) (fun _ _ _ _ _ => pf_nil) (fun _ _ _ _ _ => pe_callTy call_list_of (by rfl) T.list bt_list (pa_cons (pv 0) pa_nil)))
      (pss_cons (ps_mid (ps_set (i := 7) scLaw.nd rfl (Or.inl rfl) (pe_call S.gG hr (by rfl) S.mG S.kG S.bG .nil pass0 (pa_cons pe_int (pa_cons (pv 3) (pa_cons (pv 6) pa_nil))))))
      (pss_cons (ps_if (pw_or (pt_cmpR (op_neD hu) (pv 6) (pv 5) (nomark _)) (pw_or1 (pt_cmpR (op_neD hu) (pe_fld (pv 3) rfl) (pv 2) (nomark _)))).pt (pss_one (ps_ret pe_bl)) pss_nil)
      (pss_cons (ps_mid (ps_if (pt_val (pe_call S.gL r2 (by rfl) S.mL S.kL S.bL .nil pass0 (pa_cons (pv 5) (pa_cons (pv 1) pa_nil))))
          (pss_cons (ps_comp (i := 8) (own := ["k"]) (caps := ["pairs", "parts"]) (cs := [2, 5]) (sc := defScope sLaw) ⟨rfl, rfl, by decide +kernel, by decide +kernel, by decide +kernel, by decide +kernel, rfl⟩ rfl scLaw.nd rfl rfl rfl
            (pi_range1 (by rfl) T.range (pa_cons (pe_callB call_len_seq (by rfl) T.len PySem.boot_len (pa_cons (pv 2) pa_nil)) pa_nil)) (fun _ _ _ _ _ => pg_name (i := 0) ndK rfl (Or.inl rfl) (.inr rfl))
            (fun _ _ _ _ _ => pf_one (pt_not (pt_val (pe_call S.gO r1 (by rfl) S.mO S.kO S.bO .nil pass0 (pa_cons (pv 2) (pa_cons (pe_ix ix_list (pv 1) (pv 0) (fun _ _ => rfl)) pa_nil)))))) (fun _ _ _ _ _ => pv 0))
          (pss_one (ps_if (pw_or (pt_cmp (pc_notN (pe_ix ix_tup (pv 7) pe_int (fun _ _ => rfl)))) (pw_or1 (pt_not (pt_val (pe_call S.gS r2 (by rfl) S.mS S.kS S.bS .nil pass0 (pa_cons (pe_ix ix_tup (pv 7) pe_int (fun _ _ => rfl)) (pa_cons (pv 8) (pa_cons (pe_callB call_len_seq (by rfl) T.len PySem.boot_len (pa_cons (pv 2) pa_nil)) pa_nil)))))))).pt (pss_one (ps_ret pe_bl)) pss_nil)))
          (pss_one (ps_if (pt_not (pt_val (pe_call S.gR r2 (by rfl) S.mR S.kR S.bR .nil pass0 (pa_cons (pe_ix ix_tup (pv 7) pe_int (fun _ _ => rfl)) (pa_cons pe_str pa_nil))))) (pss_one (ps_ret pe_bl)) pss_nil))))
      (pss_cons (ps_if (pt_not (pt_val (pe_call S.gR r2 (by rfl) S.mR S.kR S.bR .nil pass0 (pa_cons (pe_ix ix_tup (pe_call S.gG hr (by rfl) S.mG S.kG S.bG .nil pass0 (pa_cons pe_int (pa_cons (pv 3) (pa_cons (pe_lst pa_nil) pa_nil)))) pe_int (fun _ _ => rfl)) (pa_cons pe_str pa_nil))))) (pss_one (ps_ret pe_bl)) pss_nil)
      (pss_cons (ps_set (i := 9) scLaw.nd rfl (Or.inr rfl) (pe_comp (own := ["quarter"]) (caps := ["number"]) (cs := [4]) (sc := defScope sLaw) ⟨rfl, rfl, by decide +kernel, by decide +kernel, by decide +kernel, by decide +kernel, rfl⟩ rfl
        (pi_range1 (by rfl) T.range (pa_cons (pv 1) pa_nil)) (fun _ _ _ _ _ => pg_name (i := 0) ndQ rfl (Or.inl rfl) (.inr rfl))
        (fun _ _ _ _ _ => pf_one (pt_cmpR op_gt (pe_op op_mod (pe_op op_add (pe_op op_fdiv (pv 1) (pe_op op_add (pv 0) pe_int)) (pv 0)) pe_int) pe_int (nomark _))) (fun _ _ _ _ _ => pv 0)))
      (pss_cons (ps_mid (ps_if (pt_cmpR (op_eqD hu) (pv 9) (pe_lst pa_nil) (nomark _)) (pss_one (ps_set (i := 9) scLaw.nd rfl (Or.inr rfl) (pe_lst (pa_cons (pe_op op_mod (pv 4) (pv 1)) pa_nil)))) pss_nil))
      (pss_cons (ps_comp (i := 8) (own := ["k"]) (caps := ["pairs", "some"]) (cs := [2, 9]) (sc := defScope sLaw) ⟨rfl, rfl, by decide +kernel, by decide +kernel, by decide +kernel, by decide +kernel, rfl⟩ rfl scLaw.nd rfl rfl rfl
        (pi_range1 (by rfl) T.range (pa_cons (pe_callB call_len_seq (by rfl) T.len PySem.boot_len (pa_cons (pv 2) pa_nil)) pa_nil)) (fun _ _ _ _ _ => pg_name (i := 0) ndS rfl (Or.inl rfl) (.inr rfl))
        (fun _ _ _ _ _ => pf_one (pw_and (pt_cmpR op_in_seq (pe_ix ix_tup (pe_ix ix_list (pv 1) (pv 0) (fun _ _ => rfl)) pe_int (fun _ _ => rfl)) (pv 2) rfl) (pw_and1 (pt_cmpR op_in_seq (pe_ix ix_tup (pe_ix ix_list (pv 1) (pv 0) (fun _ _ => rfl)) pe_int (fun _ _ => rfl)) (pv 2) rfl))).pt)
        (fun _ _ _ _ _ => pv 0))
      (pss_cons (ps_set (i := 6) scLaw.nd rfl (Or.inl rfl) (pe_callTy call_list_of (by rfl) T.list bt_list (pa_cons (pv 9) pa_nil)))
      (pss_cons (ps_if (pw_or (pt_not (pt_val (pe_call S.gS r2 (by rfl) S.mS S.kS S.bS .nil pass0 (pa_cons (pe_call S.gW r4 (by rfl) S.mW S.kW S.bW .nil passE0 (pa_cons (pv 3) (pa_cons (pv 6) pa_nil))) (pa_cons (pv 8) (pa_cons (pe_callB call_len_seq (by rfl) T.len PySem.boot_len (pa_cons (pv 2) pa_nil)) pa_nil))))))
        (pw_or1 (pt_cmpR (op_neD hu) (pv 6) (pv 9) (nomark _)))).pt (pss_one (ps_ret pe_bl)) pss_nil)
      (pss_cons (ps_set (i := 10) scLaw.nd rfl (Or.inl rfl) (pe_call S.gB r1 (by rfl) S.mB S.kB S.bB .nil pass0 (pa_cons (pv 9) (pa_cons (pv 1) (pa_cons (pe_op op_fdiv (pv 4) pe_int) pa_nil)))))
      (pss_cons (ps_if (pt_not (pt_val (pe_call S.gR r2 (by rfl) S.mR S.kR S.bR .nil pass0 (pa_cons (pe_ix ix_tup (pe_call S.gG hr (by rfl) S.mG S.kG S.bG .nil pass0 (pa_cons pe_int (pa_cons (pv 3) (pa_cons (pv 10) pa_nil)))) pe_int (fun _ _ => rfl)) (pa_cons pe_str pa_nil))))) (pss_one (ps_ret pe_bl)) pss_nil)
      (pss_one (ps_ret (pe_call S.gR r2 (by rfl) S.mR S.kR S.bR .nil pass0 (pa_cons (pe_ix ix_tup (pe_call S.gG hr (by rfl) S.mG S.kG S.bG .nil pass0 (pa_cons pe_int (pa_cons (pv 3) (pa_cons (pe_lst pa_nil) pa_nil)))) pe_int (fun _ _ => rfl)) (pa_cons pe_str pa_nil)))))))))))))))))))), ?_⟩
    -- quarters, pairs
    refine ⟨_, rfl, sc, ns, rfl, hS, fun t lp q xs ps H1 ht hlp hpv hft s1 => ⟨t, _, rfl, SqT.of ht, rfl, _, _, rfl, _, _, rfl, rfl, ?_⟩⟩
    obtain ⟨⟨hq1, hq2⟩, h60, hok⟩ := fits_iff hft
    have hxl := hpv.length
    -- town
    refine ⟨_, rfl, _, rfl, lp, xs, rfl, .inl (SqL.of hlp), fun lh hlh p dx np ndx npd => ?_⟩
    have s2 : Same H1 (upd H1 lh (.lst xs)) := Same.rfl'.new hlh
    have s3 : Same (upd H1 lh (.lst xs)) (upd (upd (upd H1 lh (.lst xs)) dx (.own p)) p (.ins CT dx [])) := fun b o e => by
      rw [upd_ne (ne_of_none e np), upd_ne (ne_of_none e ndx)]
      exact e
    refine ⟨p, dx, q, lh, xs, ps, rfl, upd_same, s3 _ _ upd_same, (hpv.same s2).same s3, hft, fun l2 H5 nl2 tw keep => ⟨rfl, ?_⟩⟩
    have s5 : Same H1 H5 := s2.tr fun b o e => keep b o (s3 b o e) (ne_of_none e np)
    -- number
    refine ⟨_, rfl, sc, ns, 3, rfl, (s1.tr s5).seq hS, _, _, rfl, rfl, .inr ⟨by decide, by decide⟩, _, _, rfl, rfl, cpow61, _, _, rfl, rfl, pow61, ?_⟩
    obtain ⟨num, hnum⟩ : ∃ num, ns.getD 3 0 * 48271 % 10 ^ (61 : Int).toNat = num := ⟨_, rfl⟩
    -- parts
    refine ⟨_, rfl, _, rfl, sc, ns, q, rfl, (s1.tr s5).seq hS, hq1, hq2, fun H6 d0 xp0 nss0 s6 hd0 hD0 hLS0 hne0 hnz0 hl0 hf0 => ?_⟩
    refine ⟨_, rfl, _, rfl, d0, xp0, nss0, q, num, by rw [← hnum]; rfl, hD0, hLS0, hne0, hnz0, hl0, hf0, hq1, fun H7 la xp nss s7 hla hlaH hls hn1 hn2 => ?_⟩
    have e7 : E5 K CT H7 sc lp p l2 la ns q xs xp ps nss := ⟨((s1.tr s5).tr (s6.tr s7)).seq hS, (s5.tr (s6.tr s7)) _ _ hlp, hpv.same (s5.tr (s6.tr s7)), tw.same (s6.tr s7), hlaH, hls⟩
    have hpl := hls.length
    clear hlaH hls
    -- handed
    refine ⟨_, rfl, la, rfl, ⟨_, SqL.of e7.la⟩, fun hh hhn => ?_⟩
    refine comp_gen (n := nss.length) (fun i ys H => Same H7 H ∧ H hh = some (.lst ys) ∧ All2 (fun x g => ∃ a, x = V.ref a ∧ LI H a g ∧ a ≠ hh) ys (nss.take i)) ⟨Same.rfl'.new hhn, upd_same, .nil⟩ (fun i ys H hi hv => ?_) (fun i ys H hi hv => ?_) (fun ys H8 hv => ?_)
    · have := hv.2.2.length
      rw [List.length_take] at this
      exact small1000 (by omega)
    · obtain ⟨sm, hy, hA⟩ := hv
      obtain ⟨x, hxi⟩ : ∃ x, xp[i]? = some x := ⟨_, List.getElem?_eq_getElem (by omega)⟩
      obtain ⟨g, hg, a, rfl, hag⟩ := e7.ls.get hxi
      refine ⟨⟨_, _, SqL.of (sm _ _ e7.la), hxi⟩, fun K1 k1 x H' y => ?_⟩
      obtain ⟨rfl, e⟩ := y
      have ex := e _ (SqL.of (sm _ _ e7.la))
      rw [hxi] at ex
      cases ex
      refine ⟨rfl, _, rfl, a, _, rfl, .inl (SqL.of (sm _ _ hag)), fun l hl => k1 _ _ ((Same.rfl'.new hl) _ _ hy) ⟨?_, upd_same, ?_⟩⟩
      · exact (sm.tr (Same.rfl'.new hl)).new hhn
      · have nl : l ≠ hh := Ne.symm (ne_of_none hy hl)
        rw [take_snoc' hg]
        have last : LI (upd (upd H' l (.lst (g.map V.int))) hh (.lst (ys ++ [V.ref l]))) l g := by
          rw [LI, upd_ne nl, upd_same]
        refine All2.append (hA.imp fun x g' ⟨b, eb, hb, nb⟩ => ⟨b, eb, ?_, nb⟩) (.cons ⟨l, rfl, last, nl⟩ .nil)
        rw [LI, upd_ne nb]
        exact (Same.rfl'.new hl) _ _ hb
    obtain ⟨s8, hhd, hA⟩ := hv
    rw [List.take_length] at hA
    have hLh : LS H8 ys nss := hA.imp fun x g ⟨a, e, q, _⟩ => ⟨a, e, q⟩
    refine ⟨⟨_, SqL.of (s8 _ _ e7.la), by rw [hpl]; exact Nat.le_refl _⟩, ?_⟩
    have e8 := e7.same s8
    clear e7
    -- told
    refine ⟨fun σ' H' => ∃ tt, σ' = [some (.ref sc), some (.int q), some (.ref lp), some (.ref p), some (.int num), some (.ref la), some (.ref hh), some (.ref tt), none, none, none] ∧ Same H8 H' ∧
      ((isPart nss q = true ∧ ∃ d, H' tt = some (.tup [.non, .ref d]) ∧ LI H' d (filtR ps.length (betwP nss ps))) ∨ (isPart nss q = false ∧ ∃ e, H' tt = some (.tup [.ref e, .non]) ∧ H' e = some (excO e (.ref CP)))), ?_, ?_⟩
    rotate_left
    · refine ⟨_, rfl, _, rfl, p, l2, q, xs, ps, hh, e8.tw, e8.pv, hft, .inl ⟨ys, nss, rfl, hhd, hLh, by omega, by omega, fun hb H' tt d sm htt hd => ?_, fun hb H' tt e sm htt he => ?_⟩⟩
      · exact ⟨tt, by rw [← hnum]; rfl, sm, .inl ⟨hb, d, htt, hd⟩⟩
      · exact ⟨tt, by rw [← hnum]; rfl, sm, .inr ⟨hb, e, htt, he⟩⟩
    rintro σ9 H9 ⟨tt, rfl, s9, htold⟩
    have e9 := e8.same s9
    obtain ⟨⟨dx9, ht9⟩, hb9⟩ := e9.tw
    -- handed != parts or town.bridges != pairs
    refine ⟨_, rfl, _, rfl, _, _, den_lists (s9 _ _ hhd) (hLh.same s9), den_lists e9.la e9.ls, sh_lists _, sh_lists _, _, rfl, ?_⟩
    rw [eqv_lists']
    refine iteF ⟨_, rfl, p, CT, dx9, _, _, rfl, ht9, T.cl, T.nb, flds_b _ _, _, rfl, _, _, den_pairs hb9 e9.pv, den_pairs e9.lp e9.pv, sh_pairs _, sh_pairs _, _, rfl, ?_⟩
    rw [eqv_pairs']
    refine iteF ?_
    -- if _law_is_parting(parts, quarters)
    refine ⟨fun σ' H' => ∃ u, σ' = [some (.ref sc), some (.int q), some (.ref lp), some (.ref p), some (.int num), some (.ref la), some (.ref hh), some (.ref tt), u, none, none] ∧ Same H9 H', ?_, ?_⟩
    rotate_left
    · refine ⟨_, rfl, _, rfl, la, xp, nss, q, rfl, e9.la, e9.ls, hq1, hq2, fun H10 s10 => ⟨_, rfl, ?_⟩⟩
      rcases htold with ⟨hb, d, htt, hd⟩ | ⟨hb, e, htt, he⟩
      · rw [hb]
        have e10 := e9.same s10
        refine iteT ⟨_, rfl, lp, xs, rfl, .inl (SqL.of e10.lp), (xs.length : Int), rfl, by omega, by omega, fun D2 hD2 => ?_⟩
        refine comp_range (n := ((xs.length : Int)).toNat) (fun k => !inOne nss (ps.getD k (0, 0))) hD2 (by omega) (fun i H11 hi sm K1 K2 k1 k2 => ?_) (fun H11 sm hD => ?_)
        · have e0 : (0 : Int) + (i : Int) = (i : Int) := by omega
          rw [e0]
          have hix : i < xs.length := by omega
          obtain ⟨x, hxi⟩ : ∃ x, xs[i]? = some x := ⟨_, List.getElem?_eq_getElem hix⟩
          have e11 := e10.same sm
          obtain ⟨pr, hpr, a, rfl, hat⟩ := e11.pv.get hxi
          refine ⟨rfl, _, rfl, _, rfl, _, rfl, lp, _, _, _, rfl, rfl, SqL.of e11.lp, atI_nat hxi, la, xp, nss, a, pr, rfl, e11.la, e11.ls, hat, _, rfl, ?_⟩
          rw [getD_at hpr] at k1 k2
          refine ite2 (fun h => ⟨_, rfl, k1 _ Same.rfl' h⟩) (fun h => k2 _ Same.rfl' (Bool.eq_false_iff.mpr h))
        · have e11 := e10.same sm
          have st := s10.tr sm
          refine ⟨_, rfl, tt, _, _, _, rfl, rfl, SqT.of (st _ _ htt), atI_nat (j := 0) rfl, _, rfl, ?_⟩
          refine iteF ⟨_, rfl, tt, _, _, _, rfl, rfl, SqT.of (st _ _ htt), atI_nat (j := 1) rfl, _, rfl, _, rfl, lp, xs, rfl, .inl (SqL.of e11.lp), d, D2, _, _, (xs.length : Int), rfl, st _ _ hd, hD, _, rfl, ?_⟩
          have en : ((xs.length : Int)).toNat = ps.length := by omega
          have er : risesB (filtR ps.length (betwP nss ps)) (xs.length : Int) = true := by rw [hxl]; exact filtR_rises _ _
          rw [er, en, betw_eq (part_ok hb) hok, decide_eq_true rfl]
          exact iteF ⟨_, rfl, st⟩
      · rw [hb]
        refine iteF ⟨_, rfl, tt, _, _, _, rfl, rfl, SqT.of (s10 _ _ htt), atI_nat (j := 0) rfl, e, CP, "BadParting", rfl, s10 _ _ he, .inl ⟨rfl, rfl⟩, fun H11 s11 => ⟨_, rfl, iteF ⟨_, rfl, s10.tr s11⟩⟩⟩
    rintro σ12 H12 ⟨u12, rfl, s12⟩
    have e12 := e9.same s12
    -- no part at all
    have np0 : isPart [] q = false := by
      unfold isPart
      have : decide ((lens []).sum = q) = false := decide_eq_false (by show ¬ (0 : Int) = q; omega)
      rw [this, Bool.and_false]
    refine ⟨_, rfl, by show 0 ≤ sizeLine; decide, fun le hle => ?_⟩
    have e12' := e12.same (Same.rfl'.new (o := .lst []) hle)
    refine ⟨p, l2, q, xs, ps, le, e12'.tw, e12'.pv, hft, .inl ⟨[], [], rfl, upd_same, .nil, by simp, by simp, fun z => (by rw [np0] at z; cases z), fun _ H13 t13 x13 s13 ht13 hx13 => ?_⟩⟩
    refine ⟨t13, _, _, _, rfl, rfl, SqT.of ht13, atI_nat (j := 0) rfl, x13, CP, "BadParting", rfl, hx13, .inl ⟨rfl, rfl⟩, fun H14 s14 => ⟨_, rfl, iteF ?_⟩⟩
    have e14 := (e12'.same s13).same s14
    clear e12 e12' e9 e8
    -- some
    refine ⟨_, rfl, q, rfl, by omega, by omega, fun D3 hD3 => comp_range (n := q.toNat) (someP num) hD3 (by omega) (fun i H15 hi sm K1 K2 k1 k2 => ?_) (fun H15 s15 hD15 => ?_)⟩
    · have e0 : (0 : Int) + (i : Int) = (i : Int) := by omega
      rw [e0]
      refine ⟨rfl, _, rfl, _, rfl, _, _, rfl, rfl, _, _, rfl, rfl, ⟨by show (0 : Int) < (i : Int) + 7; omega, by show (i : Int) + 7 < 1073741824; omega⟩, _, rfl, _, _, rfl, rfl, _, _, rfl, rfl, (by show (0 : Int) < 3; decide), _, _, rfl, rfl, _, rfl, ?_⟩
      exact ite2 (fun h => ⟨_, rfl, k1 _ Same.rfl' h⟩) (fun h => k2 _ Same.rfl' (Bool.eq_false_iff.mpr h))
    have e15 := e14.same s15
    clear e14
    refine ⟨fun σ' H' => ∃ ls sm, σ' = [some (.ref sc), some (.int q), some (.ref lp), some (.ref p), some (.int num), some (.ref la), some (.ref hh), some (.ref tt), u12, some (.ref ls), none] ∧ LI H' ls sm ∧ someQ sm q = true ∧ sm.length ≤ 24 ∧ Same H15 H', ?_, ?_⟩
    rotate_left
    · refine ⟨_, rfl, by show 0 ≤ sizeLine; decide, fun le2 hle2 => ?_⟩
      have t1 : Same H15 (upd H15 le2 (.lst [])) := Same.rfl'.new hle2
      refine ⟨_, _, den_ints (t1 _ _ hD15), den_ints (ns := []) upd_same, sh_ints _, sh_ints _, _, rfl, ?_⟩
      rw [eqv_lints]
      refine ite2 (fun _ => ?_) (fun hne => ?_)
      · refine ⟨_, rfl, _, rfl, _, _, rfl, rfl, (by show (0 : Int) < q; omega), by show 1 ≤ sizeLine; decide, fun ls hls => ⟨ls, [num % q], rfl, upd_same, ?_, by show 1 ≤ 24; decide, t1.tr (Same.rfl'.new hls)⟩⟩
        have h1 : 0 ≤ num % q := Int.emod_nonneg _ (by omega)
        have h2 : num % q < q := Int.emod_lt_of_pos _ (by omega)
        unfold someQ
        have : risesB [num % q] q = true := risesB_iff.mpr ⟨by simp, fun x hx => by rw [List.mem_singleton] at hx; rw [hx]; exact ⟨h1, h2⟩⟩
        rw [this]
        rfl
      · refine ⟨D3, filtR q.toNat (someP num), rfl, t1 _ _ hD15, ?_, Nat.le_trans (filtR_len _ _) (by omega), t1⟩
        unfold someQ
        have hr3 := filtR_rises q.toNat (someP num)
        rw [show ((q.toNat : Nat) : Int) = q by omega] at hr3
        rw [hr3, decide_eq_false fun z => hne (decide_eq_true z)]
        rfl
    rintro σ16 H16 ⟨ls, sm, rfl, hls16, hsm, hsl, s16⟩
    have e16 := e15.same s16
    clear e15
    -- due
    refine ⟨_, rfl, lp, xs, rfl, .inl (SqL.of e16.lp), (xs.length : Int), rfl, by omega, by omega, fun D4 hD4 => ?_⟩
    refine comp_range (n := ((xs.length : Int)).toNat) (withP sm ps) hD4 (by omega) (fun i H17 hi s17 K1 K2 k1 k2 => ?_) (fun H17 s17 hD17 => ?_)
    · have e0 : (0 : Int) + (i : Int) = (i : Int) := by omega
      rw [e0]
      have hix : i < xs.length := by omega
      obtain ⟨x, hxi⟩ : ∃ x, xs[i]? = some x := ⟨_, List.getElem?_eq_getElem hix⟩
      have e17 := e16.same s17
      have l17 : LI H17 ls sm := s17 _ _ hls16
      obtain ⟨pr, hpr, a, rfl, hat⟩ := e17.pv.get hxi
      refine ⟨rfl, _, rfl, _, rfl, lp, _, _, _, rfl, rfl, SqL.of e17.lp, atI_nat hxi, a, _, _, _, rfl, rfl, SqT.of hat, atI_nat (j := 0) rfl, _, rfl, ls, _, rfl, .inl (SqL.of l17), rfl, flat_ints sm, _, rfl, ?_⟩
      have e1 : (if false = true then !inV (V.int pr.1) (sm.map V.int) else inV (V.int pr.1) (sm.map V.int)) = sm.contains pr.1 := by rw [if_neg Bool.false_ne_true, inV_ints]
      rw [e1]
      have ep : withP sm ps i = (sm.contains pr.1 && sm.contains pr.2) := by
        unfold withP
        rw [getD_at hpr]
      cases hc : sm.contains pr.1 with
      | false =>
        rw [hc] at ep
        exact iteF (iteF (k2 _ Same.rfl' ep))
      | true =>
        rw [hc, Bool.true_and] at ep
        refine iteT ⟨_, rfl, _, rfl, lp, _, _, _, rfl, rfl, SqL.of e17.lp, atI_nat hxi, a, _, _, _, rfl, rfl, SqT.of hat, atI_nat (j := 1) rfl, _, rfl, ls, _, rfl, .inl (SqL.of l17), rfl, flat_ints sm, _, rfl, ?_⟩
        have e2 : (if false = true then !inV (V.int pr.2) (sm.map V.int) else inV (V.int pr.2) (sm.map V.int)) = sm.contains pr.2 := by rw [if_neg Bool.false_ne_true, inV_ints]
        rw [e2, ← ep]
        exact ite2 (fun h => ⟨_, rfl, k1 _ Same.rfl' h⟩) (fun h => k2 _ Same.rfl' (Bool.eq_false_iff.mpr h))
    have e17 := e16.same s17
    have l17 : LI H17 ls sm := s17 _ _ hls16
    clear e16
    -- handed = list(some)
    refine ⟨_, rfl, ls, _, rfl, .inl (SqL.of l17), fun lh2 hlh2 => ?_⟩
    have t18 : Same H17 (upd H17 lh2 (.lst (sm.map V.int))) := Same.rfl'.new hlh2
    have e18 := e17.same t18
    refine ⟨_, rfl, _, rfl, p, l2, q, xs, ps, lh2, sm, rfl, e18.tw, e18.pv, hft, upd_same, by omega, fun _ H19 d19 s19 _ hd19 => ?_, fun z => by rw [hsm] at z; cases z⟩
    have e19 := e18.same s19
    have en : ((xs.length : Int)).toNat = ps.length := by omega
    refine ⟨_, rfl, _, rfl, lp, xs, rfl, .inl (SqL.of e19.lp), d19, D4, _, _, (xs.length : Int), rfl, hd19, s19 _ _ (t18 _ _ hD17), _, rfl, ?_⟩
    have er : risesB (filtR ps.length (withP sm ps)) (xs.length : Int) = true := by rw [hxl]; exact filtR_rises _ _
    rw [er, en, decide_eq_true rfl]
    refine iteF ⟨_, rfl, _, rfl, _, _, den_ints (s19 _ _ upd_same), den_ints (s19 _ _ (t18 _ _ l17)), sh_ints _, sh_ints _, _, rfl, ?_⟩
    rw [eqv_lints, decide_eq_true rfl]
    refine iteF ?_
    -- bad
    refine ⟨_, rfl, _, rfl, _, rfl, _, _, rfl, rfl, ⟨by decide, by decide⟩, ls, sm, q, _, rfl, s19 _ _ (t18 _ _ l17), by omega, fun H20 bd ns' s20 _ hbd hbl hbad => ?_⟩
    have e20 := e19.same s20
    have sq : someQ ns' q = false := by
      unfold someQ at hsm ⊢
      rw [Bool.and_eq_true] at hsm
      rw [hbad hsm.2, Bool.and_false]
    refine ⟨_, rfl, _, rfl, p, l2, q, xs, ps, bd, e20.tw, e20.pv, hft, .inr ⟨ns', rfl, hbd, by omega, sq, fun H21 t21 x21 s21 ht21 hx21 => ?_⟩⟩
    refine ⟨t21, _, _, _, rfl, rfl, SqT.of ht21, atI_nat (j := 0) rfl, x21, CQ, "BadQuarters", rfl, hx21, .inr ⟨rfl, rfl⟩, fun H22 s22 => ⟨_, rfl, iteF ?_⟩⟩
    have e22 := (e20.same s21).same s22
    refine ⟨_, rfl, by show 0 ≤ sizeLine; decide, fun le3 hle3 => ?_⟩
    have e23 := e22.same (Same.rfl'.new (o := .lst []) hle3)
    refine ⟨p, l2, q, xs, ps, le3, e23.tw, e23.pv, hft, .inr ⟨[], rfl, upd_same, by simp, rfl, fun H24 t24 x24 s24 ht24 hx24 => ?_⟩⟩
    exact ⟨t24, _, _, _, rfl, rfl, SqT.of ht24, atI_nat (j := 0) rfl, x24, CQ, "BadQuarters", rfl, hx24, .inr ⟨rfl, rfl⟩, fun H25 _ => kQ H25⟩
end
end K05
namespace K05
open PySem L2 XM
theorem all_mk {l : PySem.W.OpenLaw} {w : World} {K : PySem.W.Frag} {h : Heap} {mg : Str → Option Value} {fa CE CS CQ CP CT : Addr} {t24 t60 : Tok} {f61 f1 f2 f3 f4 f5 f6 f7 f8 f9 f10 f11 f12 f13 f14 f15 f16 f17 f18 f19 f20 f21 f22 f23 f24 f25 f26 f27 : Addr} {od61 an61 od1 an1 od2 an2 od3 an3 od4 an4 od5 an5 od6 an6 od7 an7 od8 an8 od9 an9 od10 an10 od11 an11 od12 an12 od13 an13 od14 an14 od15 an15 od16 an16 od17 an17 od18 an18 od19 an19 od20 an20 od21 an21 od22 an22 od23 an23 od24 an24 od25 an25 od26 an26 od27 an27 : Option Addr} {sl61 sl1 sl2 sl3 sl4 sl5 sl6 sl7 sl8 sl9 sl10 sl11 sl12 sl13 sl14 sl15 sl16 sl17 sl18 sl19 sl20 sl21 sl22 sl23 sl24 sl25 sl26 sl27 : Array (Option Value)} {oc61 kV61 dc61 pm61 cd61 ct61 oc1 kV1 dc1 pm1 cd1 ct1 oc2 kV2 dc2 pm2 cd2 ct2 oc3 kV3 dc3 pm3 cd3 ct3 oc4 kV4 dc4 pm4 cd4 ct4 oc5 kV5 dc5 pm5 cd5 ct5 oc6 kV6 dc6 pm6 cd6 ct6 oc7 kV7 dc7 pm7 cd7 ct7 oc8 kV8 dc8 pm8 cd8 ct8 oc9 kV9 dc9 pm9 cd9 ct9 oc10 kV10 dc10 pm10 cd10 ct10 oc11 kV11 dc11 pm11 cd11 ct11 oc12 kV12 dc12 pm12 cd12 ct12 oc13 kV13 dc13 pm13 cd13 ct13 oc14 kV14 dc14 pm14 cd14 ct14 oc15 kV15 dc15 pm15 cd15 ct15 oc16 kV16 dc16 pm16 cd16 ct16 oc17 kV17 dc17 pm17 cd17 ct17 oc18 kV18 dc18 pm18 cd18 ct18 oc19 kV19 dc19 pm19 cd19 ct19 oc20 kV20 dc20 pm20 cd20 ct20 oc21 kV21 dc21 pm21 cd21 ct21 oc22 kV22 dc22 pm22 cd22 ct22 oc23 kV23 dc23 pm23 cd23 ct23 oc24 kV24 dc24 pm24 cd24 ct24 oc25 kV25 dc25 pm25 cd25 ct25 oc26 kV26 dc26 pm26 cd26 ct26 oc27 kV27 dc27 pm27 cd27 ct27 : Value} (X : K.In h) (G : h.Ns mainGlobals mg) (hfa : mg "law" = some (.ref fa))
    (aCE : PySem.W.nsIn K mainGlobals "CrewError" = some (some (.ref CE)))
    (aCS : PySem.W.nsIn K mainGlobals "BadSome" = some (some (.ref CS)))
    (aCQ : PySem.W.nsIn K mainGlobals "BadQuarters" = some (some (.ref CQ)))
    (aCP : PySem.W.nsIn K mainGlobals "BadParting" = some (some (.ref CP)))
    (aCT : PySem.W.nsIn K mainGlobals "Town" = some (some (.ref CT)))
    (aMQ : PySem.W.nsIn K mainGlobals "MOST_QUARTERS" = some (some (.int 24 t24)))
    (aMB : PySem.W.nsIn K mainGlobals "MOST_BRIDGES" = some (some (.int 60 t60)))
    (a61 : PySem.W.nsIn K mainGlobals "put_together" = some (some (.ref f61)))
    (l61 : K.lookup f61 = some ⟨oc61, od61, .func (PySem.W.fnOf "put_together" "put_together" (defArgs sTogether) (defBody sTogether) (defScope sTogether) .none kV61 dc61 pm61 an61 cd61 ct61), sl61⟩)
    (c61 : PySem.W.codeIn K cd61 "put_together" = true)
    (k61 : PySem.W.keepIn K (.ref f61) = true)
    (a1 : PySem.W.nsIn K mainGlobals "is_quarter" = some (some (.ref f1)))
    (l1 : K.lookup f1 = some ⟨oc1, od1, .func (PySem.W.fnOf "is_quarter" "is_quarter" (defArgs sIsq) (defBody sIsq) (defScope sIsq) .none kV1 dc1 pm1 an1 cd1 ct1), sl1⟩)
    (c1 : PySem.W.codeIn K cd1 "is_quarter" = true)
    (k1 : PySem.W.keepIn K (.ref f1) = true)
    (a2 : PySem.W.nsIn K mainGlobals "joins_two" = some (some (.ref f2)))
    (l2 : K.lookup f2 = some ⟨oc2, od2, .func (PySem.W.fnOf "joins_two" "joins_two" (defArgs sJoin) (defBody sJoin) (defScope sJoin) .none kV2 dc2 pm2 an2 cd2 ct2), sl2⟩)
    (c2 : PySem.W.codeIn K cd2 "joins_two" = true)
    (k2 : PySem.W.keepIn K (.ref f2) = true)
    (a3 : PySem.W.nsIn K mainGlobals "rises" = some (some (.ref f3)))
    (l3 : K.lookup f3 = some ⟨oc3, od3, .func (PySem.W.fnOf "rises" "rises" (defArgs sRises) (defBody sRises) (defScope sRises) .none kV3 dc3 pm3 an3 cd3 ct3), sl3⟩)
    (c3 : PySem.W.codeIn K cd3 "rises" = true)
    (k3 : PySem.W.keepIn K (.ref f3) = true)
    (a4 : PySem.W.nsIn K mainGlobals "rises_below" = some (some (.ref f4)))
    (l4 : K.lookup f4 = some ⟨oc4, od4, .func (PySem.W.fnOf "rises_below" "rises_below" (defArgs sRisesB) (defBody sRisesB) (defScope sRisesB) .none kV4 dc4 pm4 an4 cd4 ct4), sl4⟩)
    (c4 : PySem.W.codeIn K cd4 "rises_below" = true)
    (k4 : PySem.W.keepIn K (.ref f4) = true)
    (a5 : PySem.W.nsIn K mainGlobals "each_once" = some (some (.ref f5)))
    (l5 : K.lookup f5 = some ⟨oc5, od5, .func (PySem.W.fnOf "each_once" "each_once" (defArgs sOnce) (defBody sOnce) (defScope sOnce) .none kV5 dc5 pm5 an5 cd5 ct5), sl5⟩)
    (c5 : PySem.W.codeIn K cd5 "each_once" = true)
    (k5 : PySem.W.keepIn K (.ref f5) = true)
    (a6 : PySem.W.nsIn K mainGlobals "are_groups" = some (some (.ref f6)))
    (l6 : K.lookup f6 = some ⟨oc6, od6, .func (PySem.W.fnOf "are_groups" "are_groups" (defArgs sGroups) (defBody sGroups) (defScope sGroups) .none kV6 dc6 pm6 an6 cd6 ct6), sl6⟩)
    (c6 : PySem.W.codeIn K cd6 "are_groups" = true)
    (k6 : PySem.W.keepIn K (.ref f6) = true)
    (a7 : PySem.W.nsIn K mainGlobals "check_town" = some (some (.ref f7)))
    (l7 : K.lookup f7 = some ⟨oc7, od7, .func (PySem.W.fnOf "check_town" "check_town" (defArgs sCheck) (defBody sCheck) (defScope sCheck) .none kV7 dc7 pm7 an7 cd7 ct7), sl7⟩)
    (c7 : PySem.W.codeIn K cd7 "check_town" = true)
    (k7 : PySem.W.keepIn K (.ref f7) = true)
    (a8 : PySem.W.nsIn K mainGlobals "check_some_quarters" = some (some (.ref f8)))
    (l8 : K.lookup f8 = some ⟨oc8, od8, .func (PySem.W.fnOf "check_some_quarters" "check_some_quarters" (defArgs sCheckQ) (defBody sCheckQ) (defScope sCheckQ) .none kV8 dc8 pm8 an8 cd8 ct8), sl8⟩)
    (c8 : PySem.W.codeIn K cd8 "check_some_quarters" = true)
    (k8 : PySem.W.keepIn K (.ref f8) = true)
    (a9 : PySem.W.nsIn K mainGlobals "is_parting" = some (some (.ref f9)))
    (l9 : K.lookup f9 = some ⟨oc9, od9, .func (PySem.W.fnOf "is_parting" "is_parting" (defArgs sIsPart) (defBody sIsPart) (defScope sIsPart) .none kV9 dc9 pm9 an9 cd9 ct9), sl9⟩)
    (c9 : PySem.W.codeIn K cd9 "is_parting" = true)
    (k9 : PySem.W.keepIn K (.ref f9) = true)
    (a10 : PySem.W.nsIn K mainGlobals "part_places" = some (some (.ref f10)))
    (l10 : K.lookup f10 = some ⟨oc10, od10, .func (PySem.W.fnOf "part_places" "part_places" (defArgs sPlaces) (defBody sPlaces) (defScope sPlaces) .none kV10 dc10 pm10 an10 cd10 ct10), sl10⟩)
    (c10 : PySem.W.codeIn K cd10 "part_places" = true)
    (k10 : PySem.W.keepIn K (.ref f10) = true)
    (a11 : PySem.W.nsIn K mainGlobals "bridges_between" = some (some (.ref f11)))
    (l11 : K.lookup f11 = some ⟨oc11, od11, .func (PySem.W.fnOf "bridges_between" "bridges_between" (defArgs sBetween) (defBody sBetween) (defScope sBetween) .none kV11 dc11 pm11 an11 cd11 ct11), sl11⟩)
    (c11 : PySem.W.codeIn K cd11 "bridges_between" = true)
    (k11 : PySem.W.keepIn K (.ref f11) = true)
    (a12 : PySem.W.nsIn K mainGlobals "bridges_within" = some (some (.ref f12)))
    (l12 : K.lookup f12 = some ⟨oc12, od12, .func (PySem.W.fnOf "bridges_within" "bridges_within" (defArgs sWithin) (defBody sWithin) (defScope sWithin) .none kV12 dc12 pm12 an12 cd12 ct12), sl12⟩)
    (c12 : PySem.W.codeIn K cd12 "bridges_within" = true)
    (k12 : PySem.W.keepIn K (.ref f12) = true)
    (a13 : PySem.W.findIn K (.ref CT) "__init__" = some (some (.ref f13)))
    (l13 : K.lookup f13 = some ⟨oc13, od13, .func (PySem.W.fnOf "__init__" "Town.__init__" (defArgs sInit) (defBody sInit) (defScope sInit) .none kV13 dc13 pm13 an13 cd13 ct13), sl13⟩)
    (c13 : PySem.W.codeIn K cd13 "Town.__init__" = true)
    (k13 : PySem.W.keepIn K (.ref f13) = true)
    (a14 : PySem.W.findIn K (.ref CQ) "called" = some (some (.ref f14)))
    (l14 : K.lookup f14 = some ⟨oc14, od14, .func (PySem.W.fnOf "called" "BadQuarters.called" (defArgs sCalledQ) (defBody sCalledQ) (defScope sCalledQ) .none kV14 dc14 pm14 an14 cd14 ct14), sl14⟩)
    (c14 : PySem.W.codeIn K cd14 "BadQuarters.called" = true)
    (k14 : PySem.W.keepIn K (.ref f14) = true)
    (a15 : PySem.W.findIn K (.ref CP) "called" = some (some (.ref f15)))
    (l15 : K.lookup f15 = some ⟨oc15, od15, .func (PySem.W.fnOf "called" "BadParting.called" (defArgs sCalledP) (defBody sCalledP) (defScope sCalledP) .none kV15 dc15 pm15 an15 cd15 ct15), sl15⟩)
    (c15 : PySem.W.codeIn K cd15 "BadParting.called" = true)
    (k15 : PySem.W.keepIn K (.ref f15) = true)
    (a16 : PySem.W.nsIn K mainGlobals "_law_at" = some (some (.ref f16)))
    (l16 : K.lookup f16 = some ⟨oc16, od16, .func (PySem.W.fnOf "_law_at" "_law_at" (defArgs sAt) (defBody sAt) (defScope sAt) .none kV16 dc16 pm16 an16 cd16 ct16), sl16⟩)
    (c16 : PySem.W.codeIn K cd16 "_law_at" = true)
    (k16 : PySem.W.keepIn K (.ref f16) = true)
    (a17 : PySem.W.nsIn K mainGlobals "_law_town" = some (some (.ref f17)))
    (l17 : K.lookup f17 = some ⟨oc17, od17, .func (PySem.W.fnOf "_law_town" "_law_town" (defArgs sTown) (defBody sTown) (defScope sTown) .none kV17 dc17 pm17 an17 cd17 ct17), sl17⟩)
    (c17 : PySem.W.codeIn K cd17 "_law_town" = true)
    (k17 : PySem.W.keepIn K (.ref f17) = true)
    (a18 : PySem.W.nsIn K mainGlobals "_law_spoiled" = some (some (.ref f18)))
    (l18 : K.lookup f18 = some ⟨oc18, od18, .func (PySem.W.fnOf "_law_spoiled" "_law_spoiled" (defArgs sSpoiled) (defBody sSpoiled) (defScope sSpoiled) .none kV18 dc18 pm18 an18 cd18 ct18), sl18⟩)
    (c18 : PySem.W.codeIn K cd18 "_law_spoiled" = true)
    (k18 : PySem.W.keepIn K (.ref f18) = true)
    (a19 : PySem.W.nsIn K mainGlobals "_law_rising" = some (some (.ref f19)))
    (l19 : K.lookup f19 = some ⟨oc19, od19, .func (PySem.W.fnOf "_law_rising" "_law_rising" (defArgs sRising) (defBody sRising) (defScope sRising) .none kV19 dc19 pm19 an19 cd19 ct19), sl19⟩)
    (c19 : PySem.W.codeIn K cd19 "_law_rising" = true)
    (k19 : PySem.W.keepIn K (.ref f19) = true)
    (a20 : PySem.W.nsIn K mainGlobals "_law_parting" = some (some (.ref f20)))
    (l20 : K.lookup f20 = some ⟨oc20, od20, .func (PySem.W.fnOf "_law_parting" "_law_parting" (defArgs sParting) (defBody sParting) (defScope sParting) .none kV20 dc20 pm20 an20 cd20 ct20), sl20⟩)
    (c20 : PySem.W.codeIn K cd20 "_law_parting" = true)
    (k20 : PySem.W.keepIn K (.ref f20) = true)
    (a21 : PySem.W.nsIn K mainGlobals "_law_changed" = some (some (.ref f21)))
    (l21 : K.lookup f21 = some ⟨oc21, od21, .func (PySem.W.fnOf "_law_changed" "_law_changed" (defArgs sChanged) (defBody sChanged) (defScope sChanged) .none kV21 dc21 pm21 an21 cd21 ct21), sl21⟩)
    (c21 : PySem.W.codeIn K cd21 "_law_changed" = true)
    (k21 : PySem.W.keepIn K (.ref f21) = true)
    (a22 : PySem.W.nsIn K mainGlobals "_law_is_parting" = some (some (.ref f22)))
    (l22 : K.lookup f22 = some ⟨oc22, od22, .func (PySem.W.fnOf "_law_is_parting" "_law_is_parting" (defArgs sLPart) (defBody sLPart) (defScope sLPart) .none kV22 dc22 pm22 an22 cd22 ct22), sl22⟩)
    (c22 : PySem.W.codeIn K cd22 "_law_is_parting" = true)
    (k22 : PySem.W.keepIn K (.ref f22) = true)
    (a23 : PySem.W.nsIn K mainGlobals "_law_caught" = some (some (.ref f23)))
    (l23 : K.lookup f23 = some ⟨oc23, od23, .func (PySem.W.fnOf "_law_caught" "_law_caught" (defArgs sCaught) (defBody sCaught) (defScope sCaught) .none kV23 dc23 pm23 an23 cd23 ct23), sl23⟩)
    (c23 : PySem.W.codeIn K cd23 "_law_caught" = true)
    (k23 : PySem.W.keepIn K (.ref f23) = true)
    (a24 : PySem.W.nsIn K mainGlobals "_law_refused" = some (some (.ref f24)))
    (l24 : K.lookup f24 = some ⟨oc24, od24, .func (PySem.W.fnOf "_law_refused" "_law_refused" (defArgs sRefused) (defBody sRefused) (defScope sRefused) .none kV24 dc24 pm24 an24 cd24 ct24), sl24⟩)
    (c24 : PySem.W.codeIn K cd24 "_law_refused" = true)
    (k24 : PySem.W.keepIn K (.ref f24) = true)
    (a25 : PySem.W.nsIn K mainGlobals "_law_within_one" = some (some (.ref f25)))
    (l25 : K.lookup f25 = some ⟨oc25, od25, .func (PySem.W.fnOf "_law_within_one" "_law_within_one" (defArgs sOne) (defBody sOne) (defScope sOne) .none kV25 dc25 pm25 an25 cd25 ct25), sl25⟩)
    (c25 : PySem.W.codeIn K cd25 "_law_within_one" = true)
    (k25 : PySem.W.keepIn K (.ref f25) = true)
    (a26 : PySem.W.nsIn K mainGlobals "_law_same" = some (some (.ref f26)))
    (l26 : K.lookup f26 = some ⟨oc26, od26, .func (PySem.W.fnOf "_law_same" "_law_same" (defArgs sSame) (defBody sSame) (defScope sSame) .none kV26 dc26 pm26 an26 cd26 ct26), sl26⟩)
    (c26 : PySem.W.codeIn K cd26 "_law_same" = true)
    (k26 : PySem.W.keepIn K (.ref f26) = true)
    (a27 : PySem.W.nsIn K mainGlobals "law" = some (some (.ref f27)))
    (l27 : K.lookup f27 = some ⟨oc27, od27, .func (PySem.W.fnOf "law" "law" (defArgs sLaw) (defBody sLaw) (defScope sLaw) .none kV27 dc27 pm27 an27 cd27 ct27), sl27⟩)
    (c27 : PySem.W.codeIn K cd27 "law" = true)
    (k27 : PySem.W.keepIn K (.ref f27) = true)
    (i13 : PySem.W.isFn K (.ref f13) = true)
    (i14 : PySem.W.isFn K (.ref f14) = true)
    (i15 : PySem.W.isFn K (.ref f15) = true)
    (pg : PySem.W.plainGet K CT Str.empty = true)
    (hd : PySem.W.hasDictIn K CT = true)
    (po : PySem.W.plainOver K CT = true)
    (sa : PySem.W.findIn K (.ref CT) "__setattr__" = some (some (.builtin "object.__setattr__")))
    (mkT : PySem.W.makesIn K CT = true)
    (kT : PySem.W.keepIn K (.ref CT) = true)
    (nq : PySem.W.findIn K (.ref CT) "quarters" = some none)
    (nb : PySem.W.findIn K (.ref CT) "bridges" = some none)
    (eQ : PySem.W.excIn K CQ [.type "ValueError", .type "Exception", .type "BaseException", .type "object"] "ValueError.__new__" = true)
    (b1Q : PySem.W.findIn K (.ref CQ) "__getattribute__" = some (some (.builtin "BaseException.__getattribute__")))
    (b2Q : PySem.W.findIn K (.ref CQ) "__getattr__" = some none)
    (b3Q : PySem.W.isClsIn K CQ = true)
    (b4Q : PySem.W.findIn K (.ref CQ) "__class__" = some (some (.builtin "object.__class__")))
    (b7Q : PySem.W.mroIn K CQ (.type "object") = some true)
    (b8Q : PySem.W.mroIn K CQ (.type "BaseException") = some true)
    (s1Q : PySem.W.mroIn K CQ (.ref CE) = some true)
    (eP : PySem.W.excIn K CP [.type "ValueError", .type "Exception", .type "BaseException", .type "object"] "ValueError.__new__" = true)
    (b1P : PySem.W.findIn K (.ref CP) "__getattribute__" = some (some (.builtin "BaseException.__getattribute__")))
    (b2P : PySem.W.findIn K (.ref CP) "__getattr__" = some none)
    (b3P : PySem.W.isClsIn K CP = true)
    (b4P : PySem.W.findIn K (.ref CP) "__class__" = some (some (.builtin "object.__class__")))
    (b7P : PySem.W.mroIn K CP (.type "object") = some true)
    (b8P : PySem.W.mroIn K CP (.type "BaseException") = some true)
    (s1P : PySem.W.mroIn K CP (.ref CE) = some true)
    (b5 : PySem.W.specialIn K (.builtin "object.__class__") "__get__" = some (some (.builtin "getset_descriptor.__get__")))
    (b6 : PySem.W.takesIn K (.builtin "object.__class__") = some true)
    (n1 : PySem.W.isClsIn K CE = true)
    (n2 : PySem.W.typeIn K (.ref CE) = some (.type "type"))
    (n3 : PySem.W.mroIn K CE (.type "BaseException") = some true)
    (qE : PySem.W.kitOne K (.ref CQ) (.ref CE) = some true)
    (pE : PySem.W.kitOne K (.ref CP) (.ref CE) = some true)
    (qV : PySem.W.kitOne K (.ref CQ) (.type "ValueError") = some true)
    (pV : PySem.W.kitOne K (.ref CP) (.type "ValueError") = some true)
    (qS : PySem.W.kitOne K (.ref CQ) (.ref CS) = some false)
    (pS : PySem.W.kitOne K (.ref CP) (.ref CS) = some false)
    (qP : PySem.W.kitOne K (.ref CQ) (.ref CP) = some false)
    (pQ : PySem.W.kitOne K (.ref CP) (.ref CQ) = some false)
    (z0 : PySem.W.nsIn K mainGlobals "len" = some none)
    (z1 : PySem.W.nsIn K mainGlobals "list" = some none)
    (z2 : PySem.W.nsIn K mainGlobals "range" = some none)
    (z3 : PySem.W.nsIn K mainGlobals "isinstance" = some none)
    (z4 : PySem.W.nsIn K mainGlobals "int" = some none)
    (z5 : PySem.W.nsIn K mainGlobals "bool" = some none)
    (z6 : PySem.W.nsIn K mainGlobals "ValueError" = some none)
    (z7 : PySem.W.nsIn K mainGlobals "all" = some none)
    (z8 : PySem.W.nsIn K mainGlobals "zip" = some none)
    (z9 : PySem.W.nsIn K mainGlobals "enumerate" = some none)
    (z10 : PySem.W.nsIn K mainGlobals "set" = some none)
    (z11 : PySem.W.nsIn K mainGlobals "sum" = some none)
    (z12 : PySem.W.nsIn K mainGlobals "sorted" = some none)
    (z13 : PySem.W.nsIn K mainGlobals "max" = some none)
    (z14 : PySem.W.nsIn K mainGlobals "reversed" = some none) :
    ∃ fd : FuncData, (∀ (s : Shared) (v : Value), BindsTo s fd ⟨[v], []⟩ [("script", v)]) ∧ ∀ base : Heap, K.In base → base.Ns mainGlobals mg → FnOk l.prog w K mg base CX0 7 fa fd ["script"] (spLaw K) := by
  have e := hfa.symm.trans (PySem.W.mg_of X G a27)
  cases e
  have T : Txt K mg CE CS CQ CP CT := ⟨PySem.W.mg_of X G aCE, PySem.W.mg_of X G aCS, PySem.W.mg_of X G aCQ, PySem.W.mg_of X G aCP, PySem.W.mg_of X G aCT, ⟨eQ, PySem.F.excBase_ValueError⟩, ⟨eP, PySem.F.excBase_ValueError⟩, ⟨b1Q, b2Q, b3Q, b4Q, b5, b6, b7Q, b8Q⟩, ⟨b1P, b2P, b3P, b4P, b5, b6, b7P, b8P⟩, ⟨n1, n2, n3⟩, s1Q, s1P, qE, pE, qV, pV, qS, pS, qP, pQ, ⟨pg, hd, po, sa⟩, nq, nb, ⟨_, PySem.W.mg_of X G aMQ⟩, ⟨_, PySem.W.mg_of X G aMB⟩, PySem.W.mg_none_of X G z0, PySem.W.mg_none_of X G z1, PySem.W.mg_none_of X G z2, PySem.W.mg_none_of X G z3, PySem.W.mg_none_of X G z4, PySem.W.mg_none_of X G z5, PySem.W.mg_none_of X G z6, PySem.W.mg_none_of X G z7, PySem.W.mg_none_of X G z8, PySem.W.mg_none_of X G z9, PySem.W.mg_none_of X G z10, PySem.W.mg_none_of X G z11, PySem.W.mg_none_of X G z12, PySem.W.mg_none_of X G z13, PySem.W.mg_none_of X G z14⟩
  have F61 := fun_mk (st := sTogether) l61 c61 k61
  have B61 := F61.binds (ps := ["lists"]) fun _ _ _ _ _ _ us hl => match us, hl with | [_], _ => rfl
  have F1 := fun_mk (st := sIsq) l1 c1 k1
  have B1 := F1.binds (ps := ["number", "quarters"]) fun _ _ _ _ _ _ us hl => match us, hl with | [_, _], _ => rfl
  have F2 := fun_mk (st := sJoin) l2 c2 k2
  have B2 := F2.binds (ps := ["one", "other", "quarters"]) fun _ _ _ _ _ _ us hl => match us, hl with | [_, _, _], _ => rfl
  have F3 := fun_mk (st := sRises) l3 c3 k3
  have B3 := F3.binds (ps := ["numbers"]) fun _ _ _ _ _ _ us hl => match us, hl with | [_], _ => rfl
  have F4 := fun_mk (st := sRisesB) l4 c4 k4
  have B4 := F4.binds (ps := ["numbers", "count"]) fun _ _ _ _ _ _ us hl => match us, hl with | [_, _], _ => rfl
  have F5 := fun_mk (st := sOnce) l5 c5 k5
  have B5 := F5.binds (ps := ["lists"]) fun _ _ _ _ _ _ us hl => match us, hl with | [_], _ => rfl
  have F6 := fun_mk (st := sGroups) l6 c6 k6
  have B6 := F6.binds (ps := ["groups", "quarters", "fewest"]) fun _ _ _ _ _ _ us hl => match us, hl with | [_, _, _], _ => rfl
  have F7 := fun_mk (st := sCheck) l7 c7 k7
  have B7 := F7.binds (ps := ["quarters", "bridges"]) fun _ _ _ _ _ _ us hl => match us, hl with | [_, _], _ => rfl
  have F8 := fun_mk (st := sCheckQ) l8 c8 k8
  have B8 := F8.binds (ps := ["some", "quarters"]) fun _ _ _ _ _ _ us hl => match us, hl with | [_, _], _ => rfl
  have F9 := fun_mk (st := sIsPart) l9 c9 k9
  have B9 := F9.binds (ps := ["town", "parting"]) fun _ _ _ _ _ _ us hl => match us, hl with | [_, _], _ => rfl
  have F10 := fun_mk (st := sPlaces) l10 c10 k10
  have B10 := F10.binds (ps := ["parting"]) fun _ _ _ _ _ _ us hl => match us, hl with | [_], _ => rfl
  have F11 := fun_mk (st := sBetween) l11 c11 k11
  have B11 := F11.binds (ps := ["town", "parting"]) fun _ _ _ _ _ _ us hl => match us, hl with | [_, _], _ => rfl
  have F12 := fun_mk (st := sWithin) l12 c12 k12
  have B12 := F12.binds (ps := ["town", "quarters"]) fun _ _ _ _ _ _ us hl => match us, hl with | [_, _], _ => rfl
  have F13 := fun_mk (st := sInit) l13 c13 k13
  have B13 := F13.binds (ps := ["self", "quarters", "bridges"]) fun _ _ _ _ _ _ us hl => match us, hl with | [_, _, _], _ => rfl
  have F14 := fun_mk (st := sCalledQ) l14 c14 k14
  have B14 := F14.binds (ps := ["self"]) fun _ _ _ _ _ _ us hl => match us, hl with | [_], _ => rfl
  have F15 := fun_mk (st := sCalledP) l15 c15 k15
  have B15 := F15.binds (ps := ["self"]) fun _ _ _ _ _ _ us hl => match us, hl with | [_], _ => rfl
  have F16 := fun_mk (st := sAt) l16 c16 k16
  have B16 := F16.binds (ps := ["script", "k"]) fun _ _ _ _ _ _ us hl => match us, hl with | [_, _], _ => rfl
  have F17 := fun_mk (st := sTown) l17 c17 k17
  have B17 := F17.binds (ps := ["script"]) fun _ _ _ _ _ _ us hl => match us, hl with | [_], _ => rfl
  have F18 := fun_mk (st := sSpoiled) l18 c18 k18
  have B18 := F18.binds (ps := ["numbers", "most", "cell"]) fun _ _ _ _ _ _ us hl => match us, hl with | [_, _, _], _ => rfl
  have F19 := fun_mk (st := sRising) l19 c19 k19
  have B19 := F19.binds (ps := ["found", "most"]) fun _ _ _ _ _ _ us hl => match us, hl with | [_, _], _ => rfl
  have F20 := fun_mk (st := sParting) l20 c20 k20
  have B20 := F20.binds (ps := ["script", "quarters"]) fun _ _ _ _ _ _ us hl => match us, hl with | [_, _], _ => rfl
  have F21 := fun_mk (st := sChanged) l21 c21 k21
  have B21 := F21.binds (ps := ["parts", "quarters", "cell"]) fun _ _ _ _ _ _ us hl => match us, hl with | [_, _, _], _ => rfl
  have F22 := fun_mk (st := sLPart) l22 c22 k22
  have B22 := F22.binds (ps := ["parts", "quarters"]) fun _ _ _ _ _ _ us hl => match us, hl with | [_, _], _ => rfl
  have F23 := fun_mk (st := sCaught) l23 c23 k23
  have B23 := F23.binds (ps := ["way", "town", "things"]) fun _ _ _ _ _ _ us hl => match us, hl with | [_, _, _], _ => rfl
  have F24 := fun_mk (st := sRefused) l24 c24 k24
  have B24 := F24.binds (ps := ["caught", "word"]) fun _ _ _ _ _ _ us hl => match us, hl with | [_, _], _ => rfl
  have F25 := fun_mk (st := sOne) l25 c25 k25
  have B25 := F25.binds (ps := ["parts", "pair"]) fun _ _ _ _ _ _ us hl => match us, hl with | [_, _], _ => rfl
  have F26 := fun_mk (st := sSame) l26 c26 k26
  have B26 := F26.binds (ps := ["found", "due", "many"]) fun _ _ _ _ _ _ us hl => match us, hl with | [_, _, _], _ => rfl
  have F27 := fun_mk (st := sLaw) l27 c27 k27
  refine ⟨PySem.W.fnOf "law" "law" (defArgs sLaw) (defBody sLaw) (defScope sLaw) .none kV27 dc27 pm27 an27 cd27 ct27, fun s v => .of_eq rfl, fun base _ _ => ?_⟩
  have G2 := ok_join (P := l.prog) (w := w) (base := base) F2 F1 B1 (PySem.W.mg_of X G a1)
  have G3 := ok_rises (P := l.prog) (w := w) (base := base) T F3
  have G4 := ok_risesB T F4 G3 B3 (PySem.W.mg_of X G a3) k3
  have G61 := ok_together (P := l.prog) (w := w) (base := base) T F61
  have G5 := ok_once T F5 G61 B61 (PySem.W.mg_of X G a61) k61
  have G6 := ok_groups T F6 G4 B4 (PySem.W.mg_of X G a4) k4 G5 B5 (PySem.W.mg_of X G a5) k5 G3 B3 (PySem.W.mg_of X G a3) k3
  have G7 := ok_check T F7 G2 B2 (PySem.W.mg_of X G a2) k2
  have G8 := ok_checkQ T F8 G4 B4 (PySem.W.mg_of X G a4) k4
  have G9 := ok_isPart T F9 G6 B6 (PySem.W.mg_of X G a6) k6
  have G10 := ok_places (P := l.prog) (w := w) (base := base) T F10
  have G11 := ok_between T F11 G9 B9 (PySem.W.mg_of X G a9) k9 G10 B10 (PySem.W.mg_of X G a10) k10
  have G12 := ok_within T F12 G8 B8 (PySem.W.mg_of X G a8) k8
  have G13 := ok_init T F13 G7 B7 (PySem.W.mg_of X G a7) k7
  have G14 := ok_calledQ (P := l.prog) (w := w) (mg := mg) (base := base) F14
  have G15 := ok_calledP (P := l.prog) (w := w) (mg := mg) (base := base) F15
  have G16 := ok_at (P := l.prog) (w := w) (base := base) T F16
  have G17 := ok_town T F17 G16 B16 (PySem.W.mg_of X G a16) k16
  have G18 := ok_spoiled (P := l.prog) (w := w) (base := base) T F18
  have G19 := ok_rising (P := l.prog) (w := w) (base := base) T F19
  have G20 := ok_parting T F20 G16 B16 (PySem.W.mg_of X G a16) k16
  have G21 := ok_changed T F21 G18 B18 (PySem.W.mg_of X G a18) k18
  have G22 := ok_lpart T F22 G19 B19 (PySem.W.mg_of X G a19) k19
  have G23 := ok_caught T F23 G11 B11 (PySem.W.mg_of X G a11) k11 G12 B12 (PySem.W.mg_of X G a12) k12
  have G24 := ok_refused T F24 G15 B15 a15 i15 k15 G14 B14 a14 i14 k14
  have G25 := ok_one (P := l.prog) (w := w) (base := base) T F25
  have G26 := ok_same T F26 G19 B19 (PySem.W.mg_of X G a19) k19
  exact ok_law T F27 ⟨G13, B13, ⟨mkT, a13, i13, kT⟩, G16, B16, (PySem.W.mg_of X G a16), k16, G17, B17, (PySem.W.mg_of X G a17), k17, G20, B20, (PySem.W.mg_of X G a20), k20, G21, B21, (PySem.W.mg_of X G a21), k21, G23, B23, (PySem.W.mg_of X G a23), k23, G22, B22, (PySem.W.mg_of X G a22), k22, G25, B25, (PySem.W.mg_of X G a25), k25, G26, B26, (PySem.W.mg_of X G a26), k26, G24, B24, (PySem.W.mg_of X G a24), k24, G12, B12, (PySem.W.mg_of X G a12), k12, G18, B18, (PySem.W.mg_of X G a18), k18⟩
theorem walk {l : PySem.W.OpenLaw} {q : Program} {loose : List Str} {XP : (Str → Option Value) → Heap → Prop} {YP : World → Heap → Prop} {d : DefRec} {K : Params → PySem.W.Frag} (hn : l.most = some 63) (hdf : d.params.defaults = [])
    (hY : ∀ (w : World) (h : Heap), YP w h → (K w.params).In h)
    (F : ∀ (w : World) (mg : Str → Option Value) (fa : Addr) (h : Heap), (K w.params).In h → h.Ns mainGlobals mg → mg d.name = some (.ref fa) →
      ∃ fd : FuncData, (∀ (s : Shared) (u : Value), BindsTo s fd ⟨[u], []⟩ [("script", u)]) ∧ ∀ base : Heap, (K w.params).In base → base.Ns mainGlobals mg → FnOk l.prog w (K w.params) mg base CX0 7 fa fd ["script"] (spLaw (K w.params))) :
    PySem.W.WalkO q loose XP YP l.row.toRowW d [] (fun f vs => PySem.call f vs) :=
  L2.walk_of (n := 63) (k := 7) (x := "script") (CX := fun _ => CX0) (sp := fun w => spLaw (K w.params)) hn (by decide) hdf ⟨rfl, by decide, by decide⟩ hY F (fun _ _ a ns hl _ hS => ⟨a, ns, rfl, hS, fun _ => rfl⟩) fun _ _ _ _ _ z => z
end K05
open PySem PySem.W PyProof.Rows
set_option maxRecDepth 100000 in
set_option maxHeartbeats 0 in
theorem PySem.Challenge.cw_bridgecrews_k05_partings_holds : PySem.Challenge.rw_bridgecrews_k05_partings.Holds := by
  w_on; o_law; k_head; (case hw => w_witness2)
  k_fill
  refine K05.walk (l := PySem.Challenge.rw_bridgecrews_k05_partings) rfl rfl (fun w h Y => PySem.W.kIn_of Y) ?F
  case F =>
    intro w mg fa h KX G hmg
    refine' K05.all_mk KX G hmg ?aCE ?aCS ?aCQ ?aCP ?aCT ?aMQ ?aMB ?a61 ?l61 ?c61 ?k61 ?a1 ?l1 ?c1 ?k1 ?a2 ?l2 ?c2 ?k2 ?a3 ?l3 ?c3 ?k3 ?a4 ?l4 ?c4 ?k4 ?a5 ?l5 ?c5 ?k5 ?a6 ?l6 ?c6 ?k6 ?a7 ?l7 ?c7 ?k7 ?a8 ?l8 ?c8 ?k8 ?a9 ?l9 ?c9 ?k9 ?a10 ?l10 ?c10 ?k10 ?a11 ?l11 ?c11 ?k11 ?a12 ?l12 ?c12 ?k12 ?a13 ?l13 ?c13 ?k13 ?a14 ?l14 ?c14 ?k14 ?a15 ?l15 ?c15 ?k15 ?a16 ?l16 ?c16 ?k16 ?a17 ?l17 ?c17 ?k17 ?a18 ?l18 ?c18 ?k18 ?a19 ?l19 ?c19 ?k19 ?a20 ?l20 ?c20 ?k20 ?a21 ?l21 ?c21 ?k21 ?a22 ?l22 ?c22 ?k22 ?a23 ?l23 ?c23 ?k23 ?a24 ?l24 ?c24 ?k24 ?a25 ?l25 ?c25 ?k25 ?a26 ?l26 ?c26 ?k26 ?a27 ?l27 ?c27 ?k27 ?i13 ?i14 ?i15 ?pg ?hd ?po ?sa ?mkT ?kT ?nq ?nb ?eQ ?b1Q ?b2Q ?b3Q ?b4Q ?b7Q ?b8Q ?s1Q ?eP ?b1P ?b2P ?b3P ?b4P ?b7P ?b8P ?s1P ?b5 ?b6 ?n1 ?n2 ?n3 ?qE ?pE ?qV ?pV ?qS ?pS ?qP ?pQ ?z0 ?z1 ?z2 ?z3 ?z4 ?z5 ?z6 ?z7 ?z8 ?z9 ?z10 ?z11 ?z12 ?z13 ?z14
    (case aCE => k_is)
    (case aCS => k_is)
    (case aCQ => k_is)
    (case aCP => k_is)
    (case aCT => k_is)
    (case aMQ => k_is)
    (case aMB => k_is)
    (case a61 => k_is)
    (case l61 => k_is)
    (case c61 => k_is)
    (case k61 => k_is)
    (case a1 => k_is)
    (case l1 => k_is)
    (case c1 => k_is)
    (case k1 => k_is)
    (case a2 => k_is)
    (case l2 => k_is)
    (case c2 => k_is)
    (case k2 => k_is)
    (case a3 => k_is)
    (case l3 => k_is)
    (case c3 => k_is)
    (case k3 => k_is)
    (case a4 => k_is)
    (case l4 => k_is)
    (case c4 => k_is)
    (case k4 => k_is)
    (case a5 => k_is)
    (case l5 => k_is)
    (case c5 => k_is)
    (case k5 => k_is)
    (case a6 => k_is)
    (case l6 => k_is)
    (case c6 => k_is)
    (case k6 => k_is)
    (case a7 => k_is)
    (case l7 => k_is)
    (case c7 => k_is)
    (case k7 => k_is)
    (case a8 => k_is)
    (case l8 => k_is)
    (case c8 => k_is)
    (case k8 => k_is)
    (case a9 => k_is)
    (case l9 => k_is)
    (case c9 => k_is)
    (case k9 => k_is)
    (case a10 => k_is)
    (case l10 => k_is)
    (case c10 => k_is)
    (case k10 => k_is)
    (case a11 => k_is)
    (case l11 => k_is)
    (case c11 => k_is)
    (case k11 => k_is)
    (case a12 => k_is)
    (case l12 => k_is)
    (case c12 => k_is)
    (case k12 => k_is)
    (case a13 => k_is)
    (case l13 => k_is)
    (case c13 => k_is)
    (case k13 => k_is)
    (case a14 => k_is)
    (case l14 => k_is)
    (case c14 => k_is)
    (case k14 => k_is)
    (case a15 => k_is)
    (case l15 => k_is)
    (case c15 => k_is)
    (case k15 => k_is)
    (case a16 => k_is)
    (case l16 => k_is)
    (case c16 => k_is)
    (case k16 => k_is)
    (case a17 => k_is)
    (case l17 => k_is)
    (case c17 => k_is)
    (case k17 => k_is)
    (case a18 => k_is)
    (case l18 => k_is)
    (case c18 => k_is)
    (case k18 => k_is)
    (case a19 => k_is)
    (case l19 => k_is)
    (case c19 => k_is)
    (case k19 => k_is)
    (case a20 => k_is)
    (case l20 => k_is)
    (case c20 => k_is)
    (case k20 => k_is)
    (case a21 => k_is)
    (case l21 => k_is)
    (case c21 => k_is)
    (case k21 => k_is)
    (case a22 => k_is)
    (case l22 => k_is)
    (case c22 => k_is)
    (case k22 => k_is)
    (case a23 => k_is)
    (case l23 => k_is)
    (case c23 => k_is)
    (case k23 => k_is)
    (case a24 => k_is)
    (case l24 => k_is)
    (case c24 => k_is)
    (case k24 => k_is)
    (case a25 => k_is)
    (case l25 => k_is)
    (case c25 => k_is)
    (case k25 => k_is)
    (case a26 => k_is)
    (case l26 => k_is)
    (case c26 => k_is)
    (case k26 => k_is)
    (case a27 => k_is)
    (case l27 => k_is)
    (case c27 => k_is)
    (case k27 => k_is)
    (case i13 => k_is)
    (case i14 => k_is)
    (case i15 => k_is)
    (case pg => k_is)
    (case hd => k_is)
    (case po => k_is)
    (case sa => k_is)
    (case mkT => k_is)
    (case kT => k_is)
    (case nq => k_is)
    (case nb => k_is)
    (case eQ => k_exc)
    (case b1Q => k_is)
    (case b2Q => k_is)
    (case b3Q => k_is)
    (case b4Q => k_is)
    (case b7Q => k_is)
    (case b8Q => k_is)
    (case s1Q => k_is)
    (case eP => k_exc)
    (case b1P => k_is)
    (case b2P => k_is)
    (case b3P => k_is)
    (case b4P => k_is)
    (case b7P => k_is)
    (case b8P => k_is)
    (case s1P => k_is)
    (case b5 => k_is)
    (case b6 => k_is)
    (case n1 => k_is)
    (case n2 => k_is)
    (case n3 => k_is)
    (case qE => kit_is)
    (case pE => kit_is)
    (case qV => kit_is)
    (case pV => kit_is)
    (case qS => kit_is)
    (case pS => kit_is)
    (case qP => kit_is)
    (case pQ => kit_is)
    (case z0 => k_is)
    (case z1 => k_is)
    (case z2 => k_is)
    (case z3 => k_is)
    (case z4 => k_is)
    (case z5 => k_is)
    (case z6 => k_is)
    (case z7 => k_is)
    (case z8 => k_is)
    (case z9 => k_is)
    (case z10 => k_is)
    (case z11 => k_is)
    (case z12 => k_is)
    (case z13 => k_is)
    (case z14 => k_is)
#print axioms PySem.Challenge.cw_bridgecrews_k05_partings_holds
