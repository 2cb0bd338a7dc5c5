import PyProof.Rows.All
import Wide.All
import OpenK.AllK
import Wide.FinOn
import Lean
import PyProof.EqAt
import PyProof.EqKinds
import PyProof.TupleCall
import PyProof.PassesOwn
import PyProof.StationsW
import PyProof.ZipIter
import PyProof.EnumMake
import PyProof.EnumFor
import KE.KRevIter
import KE.KDictSum
import PyProof.ListRange
import PyProof.SumAny
import KE.KSortAsk
import KE.KSortTup
import PySem.Challenge.RW_bridgecrews_k06_whole_rings_and_pieces
set_option Elab.async false
set_option linter.all false
set_option maxRecDepth 100000
/-! THE HAND LAYER, for ints, bools, texts, own classes, LISTS and tuples (index, slices, in, append, pop ..), calls, loops. Paste it whole ahead of your own text; what your proof does not reach may be deleted. -/
namespace L2
open PySem PySem.Spec PyProof.Rows

/-- a key: an int or a str -/
abbrev Key := Sum Int Str
def keyIs : Key → Value → Bool
  | .inl k, v => Value.isInt k v
  | .inr x, v => Value.isStrOf x v
def keyH (w : World) : Key → Int
  | .inl k => hashInt k
  | .inr x => hashStr w x
theorem keyIs_shape : ∀ {k : Key} {v : Value}, keyIs k v = true → (∃ i t, k = Sum.inl i ∧ v = Value.int i t) ∨ (∃ x t, k = Sum.inr x ∧ v = Value.str x t)
  | .inl i, v, h => by
    obtain ⟨t, e⟩ := Value.isInt_shape (k := i) (v := v) h
    exact .inl ⟨i, t, rfl, e⟩
  | .inr x, v, h => by
    obtain ⟨t, e⟩ := Value.isStrOf_shape (x := x) (v := v) h
    exact .inr ⟨x, t, rfl, e⟩
theorem keyIs_int (i : Int) (t : Tok) : keyIs (.inl i) (.int i t) = true := by simp [keyIs, Value.isInt]
theorem keyIs_str (x : Str) (t : Tok) : keyIs (.inr x) (.str x t) = true := by simp [keyIs, Value.isStrOf]
theorem key_ll (a b : Int) : decide ((Sum.inl a : Key) = Sum.inl b) = (a == b) := by
  by_cases e : a = b
  · subst e; simp
  · have h : ¬ (Sum.inl a : Key) = Sum.inl b := fun q => e (Sum.inl.inj q)
    rw [decide_eq_false h]
    exact (beq_eq_false_iff_ne.mpr e).symm
theorem key_rr (a b : Str) : decide ((Sum.inr a : Key) = Sum.inr b) = decide (a = b) := by
  by_cases e : a = b
  · subst e; simp
  · have h : ¬ (Sum.inr a : Key) = Sum.inr b := fun q => e (Sum.inr.inj q)
    rw [decide_eq_false h, decide_eq_false e]
theorem key_lr (a : Int) (b : Str) : decide ((Sum.inl a : Key) = Sum.inr b) = false := decide_eq_false (fun q => nomatch q)
theorem key_rl (a : Str) (b : Int) : decide ((Sum.inr a : Key) = Sum.inl b) = false := decide_eq_false (fun q => nomatch q)

def mixKind (prog : Program) (w : World) : PySem.KeyKind prog w Key where
  is := keyIs
  hash := keyH w
  inj := fun v a b ha hb => by
    rcases keyIs_shape ha with ⟨i, t, rfl, rfl⟩ | ⟨x, t, rfl, rfl⟩
    · rcases keyIs_shape hb with ⟨j, u, rfl, e⟩ | ⟨y, u, rfl, e⟩
      · injection e with e1 _; rw [e1]
      · exact nomatch e
    · rcases keyIs_shape hb with ⟨j, u, rfl, e⟩ | ⟨y, u, rfl, e⟩
      · exact nomatch e
      · injection e with e1 _; rw [e1]
  byValue := fun k v h => by
    rcases keyIs_shape h with ⟨i, t, rfl, rfl⟩ | ⟨x, t, rfl, rfl⟩ <;> rfl
  pyHash := fun hv h => by
    rcases keyIs_shape hv with ⟨i, t, rfl, rfl⟩ | ⟨x, t, rfl, rfl⟩
    · exact wpAny_pyHash_int h
    · exact wpAny_pyHash_str h
  eqBool := fun hu hv h => by
    rcases keyIs_shape hu with ⟨i, t, rfl, rfl⟩ | ⟨x, t, rfl, rfl⟩
    · rcases keyIs_shape hv with ⟨j, u, rfl, rfl⟩ | ⟨y, u, rfl, rfl⟩
      · rw [key_ll] at h; exact wpAny_eqBool_int h
      · rw [key_lr] at h; exact SeqAt.EqAt.int_str i t y u _ _ _ _ h
    · rcases keyIs_shape hv with ⟨j, u, rfl, rfl⟩ | ⟨y, u, rfl, rfl⟩
      · rw [key_rl] at h; exact SeqAt.EqAt.str_int x t j u _ _ _ _ h
      · rw [key_rr] at h; exact wpAny_eqBool_str h
  «strs» := fun k x t v h => by
    rcases keyIs_shape h with ⟨i, u, rfl, e⟩ | ⟨y, u, rfl, e⟩
    · exact nomatch e
    · injection e with e1 _
      subst e1
      cases v <;> rfl

theorem mixKind_int (prog : Program) (w : World) (i : Int) (t : Tok) : (mixKind prog w).is (.inl i) (.int i t) = true := keyIs_int i t
theorem mixKind_str (prog : Program) (w : World) (x : Str) (t : Tok) : (mixKind prog w).is (.inr x) (.str x t) = true := keyIs_str x t
end L2

namespace L2
open PySem PySem.Spec PyProof.Rows

/-- a value, without the heap -/
inductive V where
  | non | bl (b : Bool) | int (i : Int) | str (x : Str) | byt (b : Array UInt8) | flt (b : UInt64) | ref (a : Addr) | ty (n : String)
  deriving DecidableEq

def RelV : V → Value → Prop
  | .non, u => u = Value.none
  | .bl b, u => u = Value.bool b
  | .int i, u => ∃ t, u = Value.int i t
  | .str x, u => ∃ t, u = Value.str x t
  | .byt b, u => ∃ t, u = Value.bytes b t
  | .flt b, u => ∃ t, u = Value.float b t
  | .ref a, u => u = Value.ref a
  | .ty n, u => u = Value.type n

abbrev Vals : List V → List Value → Prop := Paired RelV
theorem Vals.length {xs : List V} {us : List Value} (r : Vals xs us) : xs.length = us.length := Paired.length r
theorem Vals.get : ∀ {xs : List V} {us : List Value} {i : Nat} {x : V}, Vals xs us → xs[i]? = some x → ∃ u, us[i]? = some u ∧ RelV x u
  | _, _, _, _, .nil, e => by simp at e
  | _, _, 0, _, .cons r _, e => by simp at e; subst e; exact ⟨_, rfl, r⟩
  | _, _, i + 1, x, .cons _ t, e => by
    obtain ⟨u, h1, h2⟩ := Vals.get (i := i) (x := x) t (by simpa using e)
    exact ⟨u, by simpa using h1, h2⟩
theorem Vals.append : ∀ {xs ys : List V} {us ws : List Value}, Vals xs us → Vals ys ws → Vals (xs ++ ys) (us ++ ws)
  | _, _, _, _, .nil, s => s
  | _, _, _, _, .cons r t, s => .cons r (Vals.append t s)
theorem Vals.take : ∀ {xs : List V} {us : List Value} (n : Nat), Vals xs us → Vals (xs.take n) (us.take n)
  | _, _, 0, _ => .nil
  | _, _, _ + 1, .nil => .nil
  | _, _, n + 1, .cons r t => .cons r (Vals.take n t)
theorem Vals.drop : ∀ {xs : List V} {us : List Value} (n : Nat), Vals xs us → Vals (xs.drop n) (us.drop n)
  | _, _, 0, r => r
  | _, _, _ + 1, .nil => .nil
  | _, _, n + 1, .cons _ t => Vals.drop n t
def RelO : Option V → Option Value → Prop
  | some v, some u => RelV v u
  | none, none => True
  | _, _ => False
def KV {κ : Type} : List (κ × V) → List (κ × Value) → Prop := Paired fun (p : κ × V) (q : κ × Value) => p.1 = q.1 ∧ RelV p.2 q.2

/-- a key of a dict (00_mix): an int or a text -/
def kV : Key → V
  | .inl i => .int i
  | .inr x => .str x

/-- what stands at a tracked address -/
inductive HO where
  /-- a list -/
  | lst (xs : List V)
  /-- a tuple (never changes) -/
  | tup (xs : List V)
  /-- a dict whose keys are ints and texts; one whose keys are tuples of ints and texts (the empty one is both) -/
  | dK (kvs : List (Key × V)) | dT (kvs : List (List Key × V))
  /-- a set of ints: its members, its size -/
  | set (S : Int → Bool) (n : Nat)
  /-- an instance of the class at C, its dict at dx, its attributes -/
  | ins (C dx : Addr) (fs : List (Str × V))
  /-- the dict of the instance at x -/
  | own (x : Addr)
  /-- the dict of an exception -/
  | xd (fs : List (Str × V))
  /-- a bound method, f of x -/
  | met (f x : Addr)
  /-- a range object lo, lo + 1, .. below hi -/
  | rng (lo hi : Int)
  /-- a thing that is known to the object (the script; a dict while a loop walks it): read, never written while it is so -/
  | frz (o : Obj) (u : HO)
  /-- a code object's table -/
  | tbl (ps : Array Value)
  /-- any other thing, by what is true of its one object (a def of one's own: SetO a S n := HO.ext fun h => ..) -/
  | ext (φ : Heap → Prop)

abbrev Hp := Addr → Option HO
def upd (H : Hp) (a : Addr) (o : HO) : Hp := fun b => if b = a then some o else H b
theorem upd_same {H : Hp} {a : Addr} {o : HO} : upd H a o a = some o := by unfold upd; rw [if_pos rfl]
theorem upd_ne {H : Hp} {a b : Addr} {o : HO} (h : b ≠ a) : upd H a o b = H b := by unfold upd; rw [if_neg h]
theorem upd_upd {H : Hp} {a : Addr} {o u : HO} : upd (upd H a o) a u = upd H a u := by
  funext b; unfold upd; split <;> rfl
/-- two objects of different content stand apart -/
theorem ne_of {H : Hp} {a b : Addr} {o u : HO} (h : H a = some o) (h' : H b = some u) (d : o ≠ u) : a ≠ b := by
  intro e; subst e; rw [h] at h'; exact d (Option.some.inj h')
theorem ne_of_none {H : Hp} {a b : Addr} {o : HO} (h : H a = some o) (h' : H b = none) : a ≠ b := by
  intro e; subst e; rw [h] at h'; cases h'

section
variable (P : Program) (w : World)
def ObjOk (H : Hp) (h : Heap) (a : Addr) : HO → Prop
  | .lst xs => xs.length ≤ sizeLine ∧ ∃ (its : List Value) (n : Nat), Vals xs its ∧ h.get? a = some { cls := .type "list", data := .seq its.toArray n }
  | .tup xs => xs.length ≤ sizeLine ∧ ∃ its : List Value, Vals xs its ∧ IsTup h a its.toArray
  | .dK kvs => kvs.length ≤ sizeLine ∧ (a == sysModules) = false ∧ ∃ vs, KV kvs vs ∧ h.DictOf (mixKind P w) a vs
  | .dT kvs => kvs.length ≤ sizeLine ∧ (a == sysModules) = false ∧ ∃ xs : List (List Key × Addr × Value),
      Paired (fun (p : List Key × V) (q : List Key × Addr × Value) => p.1 = q.1 ∧ H q.2.1 = some (.tup (p.1.map kV)) ∧ RelV p.2 q.2.2) kvs xs ∧
      ∃ o es ep, h.get? a = some o ∧ o.ExactDict ∧ o.data = .dict es ep ∧ es.toList = xs.map (entryOfKey (tupleKind (mixKind P w))) ∧ (xs.map (·.1)).Nodup
  | .set S n => h.SetOf (intKind P w) a S n
  | .ins C dx fs => H dx = some (.own a) ∧ fs.length ≤ 1000 ∧ dx ≠ a ∧ h.get? a = some (PySem.W.instObj C dx) ∧
      ∃ mA, h.Ns1 dx mA ∧ (∀ f, RelO (fs.lookup f) (mA f)) ∧ PySem.Within mA (fs.map (·.1))
  | .own _ => ∃ o, h.get? a = some o
  | .xd fs => ∃ mA, h.Ns1 a mA ∧ ∀ f, RelO (fs.lookup f) (mA f)
  | .rng lo hi => ∃ t u v, h.get? a = some { cls := .type "range", data := .fields #[.int lo t, .int hi u, .int 1 v] }
  | .frz o u => h.get? a = some o ∧ ObjOk H h a u
  | .tbl ps => h.get? a = some { cls := .none, data := .fields ps }
  | .met f x => h.get? a = some (PySem.W.methodObj (.ref f) (.ref x))
  | .ext φ => φ h ∧ (∃ o, h.get? a = some o) ∧ ∀ h1 h2 : Heap, φ h1 → (∀ o, h1.get? a = some o → h2.get? a = some o) → φ h2
/-- the abstract heap is held -/
def HOk (H : Hp) (h : Heap) : Prop := ∀ a o, H a = some o → ObjOk P w H h a o
end

section
variable {P : Program} {w : World} {H H' : Hp} {h h' : Heap} {a : Addr} {o : HO}
theorem ObjOk.lt (x : ObjOk P w H h a o) : a < h.objs.size := by
  cases o with
  | lst xs => obtain ⟨_, _, _, _, e⟩ := x; exact Heap.lt_size e
  | tup xs => obtain ⟨_, _, _, p⟩ := x; exact p.lt
  | dK kvs => obtain ⟨_, _, _, _, o, _, _, e, _⟩ := x; exact Heap.lt_size e
  | dT kvs => obtain ⟨_, _, _, _, o, _, _, e, _⟩ := x; exact Heap.lt_size e
  | set S n => obtain ⟨o, _, _, _, e, _⟩ := x; exact Heap.lt_size e
  | ins C dx fs => obtain ⟨_, _, _, e, _⟩ := x; exact Heap.lt_size e
  | own y => obtain ⟨_, e⟩ := x; exact Heap.lt_size e
  | xd fs => obtain ⟨_, ⟨_, _, _, e, _⟩, _⟩ := x; exact Heap.lt_size e
  | rng lo hi => obtain ⟨_, _, _, e⟩ := x; exact Heap.lt_size e
  | frz ob u => obtain ⟨e, _⟩ := x; exact Heap.lt_size e
  | tbl ps => exact Heap.lt_size (show h.get? a = some _ from x)
  | met f y => exact Heap.lt_size (show h.get? a = some _ from x)
  | ext φ => obtain ⟨_, ⟨_, e⟩, _⟩ := x; exact Heap.lt_size e
theorem Paired.mapP {α β : Type} {F G : α → β → Prop} : ∀ {l₁ : List α} {l₂ : List β}, Paired F l₁ l₂ → (∀ a b, F a b → G a b) → Paired G l₁ l₂
  | _, _, .nil, _ => .nil
  | _, _, .cons r t, f => .cons (f _ _ r) (Paired.mapP t f)
/-- what an object's description leans on: its own object, its own dict, the tuples -/
theorem ObjOk.stay (x : ObjOk P w H h a o) (k : ∀ b u, (b = a ∨ H b = some (.own a)) → h.get? b = some u → h'.get? b = some u)
    (ho : ∀ b, H b = some (.own a) → H' b = some (.own a)) (ht : ∀ b xs, H b = some (.tup xs) → H' b = some (.tup xs)) : ObjOk P w H' h' a o := by
  induction o with
  | lst xs => obtain ⟨z, its, n, r, e⟩ := x; exact ⟨z, its, n, r, k _ _ (.inl rfl) e⟩
  | tup xs => obtain ⟨z, its, r, ob, e, c⟩ := x; exact ⟨z, its, r, ob, k _ _ (.inl rfl) e, c⟩
  | dK kvs => obtain ⟨z, y, vs, r, ob, es, ep, e, c⟩ := x; exact ⟨z, y, vs, r, ob, es, ep, k _ _ (.inl rfl) e, c⟩
  | dT kvs =>
    obtain ⟨z, y, xs, r, ob, es, ep, e, c⟩ := x
    exact ⟨z, y, xs, Paired.mapP r fun p q z => ⟨z.1, ht _ _ z.2.1, z.2.2⟩, ob, es, ep, k _ _ (.inl rfl) e, c⟩
  | set S n => obtain ⟨ob, es, ep, t, e, c⟩ := x; exact ⟨ob, es, ep, t, k _ _ (.inl rfl) e, c⟩
  | ins C dx fs =>
    obtain ⟨d, z, ne, e, mA, ⟨od, es, ep, e2, c⟩, r⟩ := x
    exact ⟨ho _ d, z, ne, k _ _ (.inl rfl) e, mA, ⟨od, es, ep, k _ _ (.inr d) e2, c⟩, r⟩
  | own y => obtain ⟨ob, e⟩ := x; exact ⟨ob, k _ _ (.inl rfl) e⟩
  | xd fs => obtain ⟨mA, ⟨od, es, ep, e, c⟩, r⟩ := x; exact ⟨mA, ⟨od, es, ep, k _ _ (.inl rfl) e, c⟩, r⟩
  | rng lo hi => obtain ⟨t, u, v, e⟩ := x; exact ⟨t, u, v, k _ _ (.inl rfl) e⟩
  | frz ob u ih => obtain ⟨e, q⟩ := x; exact ⟨k _ _ (.inl rfl) e, ih q⟩
  | tbl ps =>
    have e : h.get? a = some { cls := .none, data := .fields ps } := x
    show h'.get? a = some { cls := .none, data := .fields ps }
    exact k a _ (.inl rfl) e
  | met f y =>
    have e : h.get? a = some (PySem.W.methodObj (.ref f) (.ref y)) := x
    show h'.get? a = some (PySem.W.methodObj (.ref f) (.ref y))
    exact k a _ (.inl rfl) e
  | ext φ => obtain ⟨p, ⟨o, e⟩, st⟩ := x; exact ⟨st _ _ p fun o q => k _ _ (.inl rfl) q, ⟨o, k _ _ (.inl rfl) e⟩, st⟩
theorem HOk.lt (x : HOk P w H h) (e : H a = some o) : a < h.objs.size := (x a o e).lt
theorem HOk.fresh (x : HOk P w H h) (e : h.objs.size ≤ a) : H a = none := by
  cases q : H a with
  | none => rfl
  | some u => exact absurd (Nat.lt_of_lt_of_le (x.lt q) e) (Nat.lt_irrefl _)
/-- every object of the heap is kept -/
theorem HOk.kept (x : HOk P w H h) (k : ∀ b u, h.get? b = some u → h'.get? b = some u) : HOk P w H h' := fun a o e =>
  (x a o e).stay (fun b u _ q => k b u q) (fun _ q => q) fun _ _ q => q
/-- a new object is laid and tracked -/
theorem HOk.laid (x : HOk P w H h) (k : ∀ b u, h.get? b = some u → h'.get? b = some u) (hp : h.objs.size ≤ a) (new : ObjOk P w (upd H a o) h' a o) : HOk P w (upd H a o) h' := fun b u e => by
  have hn := x.fresh hp
  by_cases hb : b = a
  · subst hb; rw [upd_same] at e; cases e; exact new
  · rw [upd_ne hb] at e
    exact (x b u e).stay (fun c v _ q => k c v q) (fun c q => by rw [upd_ne (ne_of_none q hn)]; exact q) fun c xs q => by rw [upd_ne (ne_of_none q hn)]; exact q
end

/-- what may be read as u: it is u, or a known u -/
def Rd (H : Hp) (a : Addr) (u : HO) : Prop := H a = some u ∨ ∃ o, H a = some (.frz o u)
theorem Rd.ok {P : Program} {w : World} {H : Hp} {h : Heap} {a : Addr} {u : HO} (r : Rd H a u) (x : HOk P w H h) : ObjOk P w H h a u := by
  rcases r with r | ⟨o, r⟩
  · exact x a u r
  · obtain ⟨_, q⟩ := x a _ r
    exact q
/-- what may be written -/
def Mut : Option HO → Prop
  | some (.lst _) => True
  | some (.dK _) => True
  | some (.dT _) => True
  | some (.set _ _) => True
  | some (.ins _ _ _) => True
  | some (.ext _) => True
  | _ => False
section
variable {P : Program} {w : World} {H : Hp} {h h' : Heap} {x e : Addr} {o' : HO}
/-- the object at e is changed: x itself, or the dict of the instance x -/
theorem HOk.write (ok : HOk P w H h) (mu : Mut (H x)) (he : e = x ∨ H e = some (.own x)) (k : ∀ b u, b ≠ e → h.get? b = some u → h'.get? b = some u) (heo : ∃ u, h'.get? e = some u)
    (new : ObjOk P w (upd H x o') h' x o') : HOk P w (upd H x o') h' := fun b u q => by
  have nown : ∀ c y, H c = some (.own y) → c ≠ x := fun c y r z => by subst z; rw [r] at mu; exact mu
  have ntup : ∀ c xs, H c = some (.tup xs) → c ≠ x := fun c xs r z => by subst z; rw [r] at mu; exact mu
  by_cases hb : b = x
  · subst hb; rw [upd_same] at q; cases q; exact new
  · rw [upd_ne hb] at q
    by_cases hbe : b = e
    · have q' : H b = some (.own x) := by
        rcases he with z | z
        · exact absurd (hbe.trans z) hb
        · rw [hbe]; exact z
      rw [q] at q'; cases q'
      obtain ⟨v, hv⟩ := heo
      exact ⟨v, by rw [hbe]; exact hv⟩
    · refine (ok b u q).stay (fun c v hc r => k c v ?_ r) (fun c r => by rw [upd_ne (nown c b r)]; exact r) fun c xs r => by rw [upd_ne (ntup c xs r)]; exact r
      rcases hc with rfl | hc
      · exact hbe
      · rintro rfl
        rcases he with z | z
        · exact nown c b hc z
        · rw [hc] at z; cases z; exact hb rfl
end

/-! ### kept unless tracked; of the frames at fs (the callers') the slots may change (an exception that passes writes there); of the records at ex (iterators) nothing is said -/
structure Un (fs ex : List Addr) (H H' : Hp) (h h' : Heap) : Prop where
  keep : ∀ b o, h.get? b = some o → H b = none → b ∉ fs → b ∉ ex → h'.get? b = some o
  slot : ∀ b o, h.get? b = some o → H b = none → b ∈ fs → b ∉ ex → ∃ sl, h'.get? b = some { o with slots := sl }
  free : ∀ b o, h.get? b = some o → H b = none → b ∉ ex → H' b = none
  there : ∀ b o, h.get? b = some o → b ∉ ex → ∃ o', h'.get? b = some o'
  tups : ∀ b xs, H b = some (.tup xs) → H' b = some (.tup xs)
  frzs : ∀ b o u, H b = some (.frz o u) → H' b = some (.frz o u)
  tbls : ∀ b ps, H b = some (.tbl ps) → ∃ more, H' b = some (.tbl (ps ++ more))
section
variable {fs fs' ex ex' : List Addr} {H H1 H2 : Hp} {h h1 h2 h' : Heap} {a x e : Addr} {o : HO}
theorem Un.any (u : Un fs ex H H1 h h1) {b : Addr} {ob : Obj} (q : h.get? b = some ob) (n : H b = none) (hx : b ∉ ex) : ∃ sl, h1.get? b = some { ob with slots := sl } := by
  by_cases hb : b ∈ fs
  · exact u.slot b ob q n hb hx
  · exact ⟨ob.slots, u.keep b ob q n hb hx⟩
theorem Un.kept (k : ∀ b u, h.get? b = some u → h'.get? b = some u) : Un fs ex H H h h' :=
  ⟨fun b ob q _ _ _ => k b ob q, fun b ob q _ _ _ => ⟨ob.slots, k b ob q⟩, fun _ _ _ n _ => n, fun b ob q _ => ⟨ob, k b ob q⟩, fun _ _ q => q, fun _ _ _ q => q, fun _ ps q => ⟨#[], by rw [q]; simp⟩⟩
theorem Un.refl : Un fs ex H H h h := Un.kept fun _ _ q => q
theorem Un.laid (k : ∀ b u, h.get? b = some u → h'.get? b = some u) (hp : h.objs.size ≤ a) (hn : H a = none) : Un fs ex H (upd H a o) h h' where
  keep := fun b u q _ _ _ => k b u q
  slot := fun b u q _ _ _ => ⟨u.slots, k b u q⟩
  free := fun b u q n _ => by rw [upd_ne (Nat.ne_of_lt (Nat.lt_of_lt_of_le (Heap.lt_size q) hp))]; exact n
  there := fun b u q _ => ⟨u, k b u q⟩
  tups := fun b xs q => by rw [upd_ne (ne_of_none q hn)]; exact q
  frzs := fun b u xs q => by rw [upd_ne (ne_of_none q hn)]; exact q
  tbls := fun b ps q => ⟨#[], by rw [upd_ne (ne_of_none q hn), q]; simp⟩
theorem Un.write (mu : Mut (H x)) (he : e = x ∨ H e = some (.own x)) (k : ∀ b u, b ≠ e → h.get? b = some u → h'.get? b = some u) (heo : ∃ u, h'.get? e = some u) : Un fs ex H (upd H x o) h h' := by
  have hx : ∀ b, H b = none → b ≠ x := fun b n z => by subst z; rw [n] at mu; exact mu
  have hb : ∀ b, H b = none → b ≠ e := fun b n z => by
    subst z
    rcases he with r | r
    · exact hx b n r
    · rw [n] at r; cases r
  have hm : ∀ b u, H b = some u → ¬ Mut (some u) → b ≠ x := fun b u q nm z => by subst z; rw [q] at mu; exact nm mu
  refine ⟨fun b u q n _ _ => k b u (hb b n) q, fun b u q n _ _ => ⟨u.slots, k b u (hb b n) q⟩, fun b u q n _ => by rw [upd_ne (hx b n)]; exact n, fun b u q _ => ?_,
    fun b xs q => by rw [upd_ne (hm b _ q fun z => z)]; exact q, fun b u xs q => by rw [upd_ne (hm b _ q fun z => z)]; exact q, fun b ps q => ⟨#[], by rw [upd_ne (hm b _ q fun z => z), q]; simp⟩⟩
  by_cases hbe : b = e
  · subst hbe; exact heo
  · exact ⟨u, k b u hbe q⟩
end

/-! ### the heap without what is tracked -/
def trk (h : Heap) (H : Hp) : List Addr := (List.range h.objs.size).filter fun a => (H a).isSome
def hidT (h : Heap) (H : Hp) : Heap := PySem.W.hideAll h (trk h H)
theorem hidT_size (h : Heap) (H : Hp) : (hidT h H).objs.size = h.objs.size := PySem.W.hideAll_size _ _
theorem hidT_get {h : Heap} {H : Hp} {b : Addr} {o : Obj} (e : h.get? b = some o) (n : H b = none) : (hidT h H).get? b = some o :=
  PySem.W.hideAll_get _ e fun hm => by
    have q : (H b).isSome = true := (List.mem_filter.mp hm).2
    rw [n] at q; simp at q
theorem of_hidT {h : Heap} {H : Hp} {b : Addr} {o : Obj} (e : (hidT h H).get? b = some o) : h.get? b = some o ∧ H b = none := by
  have e' : h.get? b = some o := PySem.W.of_hideAll (trk h H) e
  refine ⟨e', ?_⟩
  cases q : H b with
  | none => rfl
  | some x =>
    have hm : b ∈ trk h H := List.mem_filter.mpr ⟨List.mem_range.mpr (Heap.lt_size e'), by simp [q]⟩
    have z : (hidT h H).get? b = none := PySem.W.hideAll_none (trk h H) hm
    rw [z] at e; cases e

/-! ### OpenK's ledger, filled with every new object but one -/
end L2

namespace L2
open PySem PySem.Spec PyProof.Rows

/-- the module's facts, over the base: the heap at the law's entry without what is tracked there -/
structure Mod (K : PySem.W.Frag) (mg : Str → Option Value) (base : Heap) : Prop where
  kin : K.In base
  glob : base.Ns mainGlobals mg
  blt : ∃ mb, base.Ns builtinsNs mb ∧ ∀ x : Str, x ≠ "__name__" → mb x = bootBuiltins x
  nolimit : base.NoLimit

/-- the context: a def's body (or a comprehension's block) running. base: fixed through the whole law; s₀, H₀: the entry; outer: the frames whose slots others may change (a def's callers); stack: all frames that run;
   ex: iterators that were made ahead of the entry and are walked here (a comprehension's); fn: the names whose cells were made at the entry (a def: all; a comprehension's block: its own); calm: not within an except suite; pn: pins that every state bears; xe: what is wanted of an exception that leaves the code -/
structure Cx where
  prog : Program
  w : World
  K : PySem.W.Frag
  mg : Str → Option Value
  base : Heap
  A : Around
  N : List Str
  s₀ : Shared
  H₀ : Hp
  env : Env
  outer : List Env
  stack : List Env
  ex : List Addr
  fn : Str → Bool
  calm : Bool
  pn : List (Addr × Obj)
  xe : Value → Shared → Prop
/-- the callers' frames -/
def frs (l : List Env) : List Addr := l.filterMap (·.frame)
abbrev Cx.fs (X : Cx) : List Addr := frs X.outer

def Vis (sc : Scope) (x : Str) : Prop := sc.names.lookup x = some .local ∨ sc.names.lookup x = some .cell ∨ sc.names.lookup x = some .free
def Loc (sc : Scope) (x : Str) : Prop := sc.names.lookup x = some .local ∨ sc.names.lookup x = some .cell
def Look (env : Env) (h : Heap) (m : Str → Option Value) (x : Str) (u : Value) : Prop :=
  (env.kindOf x = some .local ∧ m x = some u) ∨ ((env.kindOf x = some .cell ∨ env.kindOf x = some .free) ∧ ∃ c, env.cells.lookup x = some c ∧ h.IsCell c (some u))

structure Cx.Ok (X : Cx) : Prop where
  mod : Mod X.K X.mg X.base
  kind : X.env.scope.kind = .function
  glob : X.env.globals = mainGlobals
  blt : X.env.builtins = builtinsNs
  above : X.s₀.heap.objs.size ≤ X.env.locals
  inj : ∀ x y c, X.env.cells.lookup x = some c → X.env.cells.lookup y = some c → x = y
  has : ∀ x, (X.env.kindOf x = some .cell ∨ X.env.kindOf x = some .free) → ∃ c, X.env.cells.lookup x = some c
  cab : ∀ x c, X.fn x = true → X.env.cells.lookup x = some c → X.s₀.heap.objs.size ≤ c
  hd : X.calm = true → X.A.handled = none
  frames : X.A.frames = some X.stack
  stk : X.stack = X.outer ∨ (X.stack = X.env :: X.outer ∧ X.env.frame = some X.env.locals)
  exf : ∀ b ∈ X.ex, b ≠ X.env.locals ∧ ∀ x c, X.env.cells.lookup x = some c → c ≠ b
  bs : ∀ b o, X.base.get? b = some o → X.s₀.heap.get? b = some o ∧ X.H₀ b = none
  bsz : X.base.objs.size ≤ X.s₀.heap.objs.size
  noex : ∀ b o, X.base.get? b = some o → b ∉ X.ex
  exfs : ∀ b ∈ X.ex, b ∉ X.fs
  funs : X.s₀.heap.FunFrames X.base X.outer
  frf : ∀ b ∈ X.fs, X.H₀ b = none

structure Inv (X : Cx) (pins : List (Addr × Obj)) (σ : List (Option V)) (H : Hp) (s : Shared) : Prop where
  ok : X.Ok
  os : s.os = X.s₀.os
  bare : AllBare s.gens
  base : Un X.fs X.ex X.H₀ H X.s₀.heap s.heap
  loc : ∃ m, s.heap.Ns X.env.locals m ∧ ∀ (i : Nat) (x : Str) (v : V), X.N[i]? = some x → σ[i]? = some (some v) → Vis X.env.scope x → ∃ u, RelV v u ∧ Look X.env s.heap m x u
  cell : ∀ x c, X.env.cells.lookup x = some c → ∃ v, s.heap.IsCell c v
  free : H X.env.locals = none
  freeC : ∀ x c, X.env.cells.lookup x = some c → H c = none
  pin : ∀ p ∈ X.pn ++ pins, s.heap.get? p.1 = some p.2 ∧ H p.1 = none ∧ p.1 ≠ X.env.locals ∧ p.1 ∉ X.fs ∧ ∀ v, p.2.data ≠ .cell v
  hok : HOk X.prog X.w H s.heap
  len : σ.length = X.N.length

section
variable {X : Cx} {pins : List (Addr × Obj)} {σ : List (Option V)} {H H' : Hp} {s : Shared} {h' : Heap}

theorem Cx.Ok.nofr (ok : X.Ok) {b : Addr} {o : Obj} (e : X.base.get? b = some o) : b ∉ X.fs := fun hb => by
  have := (ok.funs.mem hb).1
  rw [e] at this; cases this
theorem Inv.bs (I : Inv X pins σ H s) : ∀ b o, X.base.get? b = some o → s.heap.get? b = some o ∧ H b = none := fun b o e =>
  ⟨I.base.keep b o (I.ok.bs b o e).1 (I.ok.bs b o e).2 (I.ok.nofr e) (I.ok.noex b o e), I.base.free b o (I.ok.bs b o e).1 (I.ok.bs b o e).2 (I.ok.noex b o e)⟩
theorem Inv.bk (I : Inv X pins σ H s) : ∀ b o, X.base.get? b = some o → s.heap.get? b = some o := fun b o e => (I.bs b o e).1
theorem Inv.mod (I : Inv X pins σ H s) : Mod X.K X.mg X.base := I.ok.mod
theorem Inv.kIn (I : Inv X pins σ H s) : X.K.In s.heap := I.ok.mod.kin.keeps I.bk
/-- the frame over the base: for OpenK's rules (K.In X.base is I.mod.kin) -/
theorem Inv.fr (I : Inv X pins σ H s) : ∃ m, Fr X.base X.env.locals s.heap m :=
  let ⟨m, hn, _⟩ := I.loc
  ⟨m, hn, I.bk, Nat.le_trans I.ok.bsz I.ok.above⟩
theorem Inv.lt (I : Inv X pins σ H s) : X.env.locals < s.heap.objs.size := let ⟨_, hn, _⟩ := I.loc; hn.lt
theorem Inv.sz (I : Inv X pins σ H s) : X.s₀.heap.objs.size ≤ s.heap.objs.size := Nat.le_trans I.ok.above (Nat.le_of_lt I.lt)
theorem Inv.nofs (I : Inv X pins σ H s) {a : Addr} (h : s.heap.objs.size ≤ a) : a ∉ X.fs := fun hb => by
  obtain ⟨_, o, ho, _⟩ := I.ok.funs.mem hb
  exact absurd (Nat.lt_of_lt_of_le (Heap.lt_size ho) (Nat.le_trans I.sz h)) (Nat.lt_irrefl _)
theorem Inv.cne (I : Inv X pins σ H s) : ∀ x c, X.env.cells.lookup x = some c → c ≠ X.env.locals := fun x c e z => by
  obtain ⟨v, o, ho, hd⟩ := I.cell x c e
  obtain ⟨m, ⟨o', es, ep, ho', hd', _⟩, _⟩ := I.loc
  rw [z, ho'] at ho; cases ho; rw [hd'] at hd; cases hd
theorem Inv.funs (I : Inv X pins σ H s) : s.heap.FunFrames X.base X.outer := by
  have all : ∀ (l : List Env), (∀ b ∈ frs l, b ∈ X.fs) → X.s₀.heap.FunFrames X.base l → s.heap.FunFrames X.base l := by
    intro l
    induction l with
    | nil => intro _ _; trivial
    | cons env r ih =>
      intro hs hl
      obtain ⟨hk, ⟨L, o, hf, hn, ho, hd⟩, hr⟩ := hl
      have hL : L ∈ X.fs := hs L (by unfold frs; rw [List.filterMap_cons, hf]; exact List.mem_cons_self)
      obtain ⟨sl, e⟩ := I.base.slot L o ho (I.ok.frf L hL) hL fun z => I.ok.exfs L z hL
      exact ⟨hk, ⟨L, _, hf, hn, e, hd⟩, ih (fun b hb => hs b (by unfold frs; rw [List.filterMap_cons, hf]; exact List.mem_cons_of_mem _ hb)) hr⟩
  exact all X.outer (fun _ hb => hb) I.ok.funs

/-- the frames that run, for a call -/
theorem Inv.stack (I : Inv X pins σ H s) : s.heap.FunFrames X.base X.stack := by
  rcases I.ok.stk with e | ⟨e, hf⟩
  · rw [e]; exact I.funs
  · rw [e]
    obtain ⟨m, hn, _⟩ := I.loc
    refine .cons (by rw [I.ok.kind]; decide) hf hn ?_ I.funs
    exact Heap.get?_none_of_le (Nat.le_trans I.ok.bsz I.ok.above)
theorem Inv.stkSub (I : Inv X pins σ H s) : ∀ b ∈ frs X.stack, b ∈ X.env.locals :: X.fs := fun b hb => by
  rcases I.ok.stk with e | ⟨e, hf⟩
  · rw [e] at hb; exact List.mem_cons_of_mem _ hb
  · rw [e] at hb
    unfold frs at hb
    rw [List.filterMap_cons, hf] at hb
    exact hb
theorem Inv.stkFree (I : Inv X pins σ H s) : ∀ b ∈ frs X.stack, H b = none := fun b hb => by
  rcases List.mem_cons.mp (I.stkSub b hb) with e | hb
  · rw [e]; exact I.free
  · obtain ⟨_, o, ho, _⟩ := I.ok.funs.mem hb
    exact I.base.free b o ho (I.ok.frf b hb) fun z => I.ok.exfs b z hb

/-- THE STEP: the untracked objects but the frame and the records at ch are kept (the callers' frames up to slots), the frame's map is kept, the new abstract heap is held -/
theorem Inv.step {g' : Array GenState} {t' : Nat} {d' : Drawn} {ch : List Addr} (I : Inv X pins σ H s)
    (hch : ∀ b ∈ ch, (b ∈ X.ex ∨ X.s₀.heap.objs.size ≤ b) ∧ b ≠ X.env.locals ∧ (∀ x c, X.env.cells.lookup x = some c → c ≠ b) ∧ ∀ p ∈ X.pn ++ pins, p.1 ≠ b)
    (keep : ∀ b o, b ≠ X.env.locals → b ∉ X.fs → b ∉ ch → s.heap.get? b = some o → H b = none → h'.get? b = some o)
    (slot : ∀ b o, b ≠ X.env.locals → b ∈ X.fs → b ∉ ch → s.heap.get? b = some o → H b = none → ∃ sl, h'.get? b = some { o with slots := sl }) (free : ∀ b o, b ∉ ch → s.heap.get? b = some o → H b = none → H' b = none)
    (there : ∀ b o, b ∉ ch → s.heap.get? b = some o → ∃ o', h'.get? b = some o')
    (tups : ∀ b xs, H b = some (.tup xs) → H' b = some (.tup xs)) (frzs : ∀ b o u, H b = some (.frz o u) → H' b = some (.frz o u)) (tbls : ∀ b ps, H b = some (.tbl ps) → ∃ more, H' b = some (.tbl (ps ++ more)))
    (ns : ∀ m, s.heap.Ns X.env.locals m → h'.Ns X.env.locals m) (hok : HOk X.prog X.w H' h') (hg : AllBare g') :
    Inv X pins σ H' { s with heap := h', gens := g', drawn := d', toks := t' } := by
  have neL : ∀ b o, X.s₀.heap.get? b = some o → b ≠ X.env.locals := fun b o e => Nat.ne_of_lt (Nat.lt_of_lt_of_le (Heap.lt_size e) I.ok.above)
  have neC : ∀ b o, X.s₀.heap.get? b = some o → b ∉ X.ex → b ∉ ch := fun b o e hx hb => by
    rcases (hch b hb).1 with z | z
    · exact hx z
    · exact absurd (Nat.lt_of_lt_of_le (Heap.lt_size e) z) (Nat.lt_irrefl _)
  have cellK : ∀ x c, X.env.cells.lookup x = some c → ∀ v, s.heap.IsCell c v → h'.IsCell c v := fun x c e v ⟨o, ho, hd⟩ => by
    have nch : c ∉ ch := fun z => (hch c z).2.2.1 x c e rfl
    by_cases hc : c ∈ X.fs
    · obtain ⟨sl, q⟩ := slot c o (I.cne x c e) hc nch ho (I.freeC x c e)
      exact ⟨_, q, hd⟩
    · exact ⟨o, keep c o (I.cne x c e) hc nch ho (I.freeC x c e), hd⟩
  refine ⟨I.ok, I.os, hg, ⟨fun b o e n hb hx => ?_, fun b o e n hb hx => ?_, fun b o e n hx => ?_, fun b o e hx => ?_, fun b xs e => tups b xs (I.base.tups b xs e), fun b o xs e => frzs b o xs (I.base.frzs b o xs e), fun b ps e => ?_⟩, ?_, fun x c e => ?_, ?_, fun x c e => ?_, fun p hp => ?_, hok, I.len⟩
  · exact keep b o (neL b o e) hb (neC b o e hx) (I.base.keep b o e n hb hx) (I.base.free b o e n hx)
  · obtain ⟨sl, e1⟩ := I.base.slot b o e n hb hx
    obtain ⟨sl', e2⟩ := slot b _ (neL b o e) hb (neC b o e hx) e1 (I.base.free b o e n hx)
    exact ⟨sl', e2⟩
  · obtain ⟨o', e1⟩ := I.base.there b o e hx
    exact free b o' (neC b o e hx) e1 (I.base.free b o e n hx)
  · obtain ⟨o', e1⟩ := I.base.there b o e hx
    exact there b o' (neC b o e hx) e1
  · obtain ⟨m1, e1⟩ := I.base.tbls b ps e
    obtain ⟨m2, e2⟩ := tbls b _ e1
    exact ⟨m1 ++ m2, by rw [e2, Array.append_assoc]⟩
  · obtain ⟨m, hn, hl⟩ := I.loc
    refine ⟨m, ns m hn, fun i x v e1 e2 e3 => ?_⟩
    obtain ⟨u, r, l⟩ := hl i x v e1 e2 e3
    refine ⟨u, r, ?_⟩
    rcases l with l | ⟨k, c, e, z⟩
    · exact .inl l
    · exact .inr ⟨k, c, e, cellK x c e _ z⟩
  · obtain ⟨v, z⟩ := I.cell x c e
    exact ⟨v, cellK x c e v z⟩
  · obtain ⟨m, ⟨o, _, _, ho, _⟩, _⟩ := I.loc
    exact free _ o (fun z => (hch _ z).2.1 rfl) ho I.free
  · obtain ⟨v, o, ho, hd⟩ := I.cell x c e
    exact free c o (fun z => (hch c z).2.2.1 x c e rfl) ho (I.freeC x c e)
  · obtain ⟨e, n, ne, nf, d⟩ := I.pin p hp
    have nch : p.1 ∉ ch := fun z => (hch p.1 z).2.2.2 p hp rfl
    exact ⟨keep p.1 p.2 ne nf nch e n, free p.1 p.2 nch e n, ne, nf, d⟩
/-- .. where the frame's own object is kept too -/
theorem Inv.un {t' : Nat} (I : Inv X pins σ H s) (u : Un X.fs [] H H' s.heap h') (hok : HOk X.prog X.w H' h') : Inv X pins σ H' { s with heap := h', toks := t' } := by
  obtain ⟨m, ⟨o, es, ep, ho, r⟩, _⟩ := id I.loc
  obtain ⟨sl, hL⟩ := u.any ho I.free (by simp)
  exact I.step (g' := s.gens) (d' := s.drawn) (ch := []) (fun _ z => nomatch z) (fun b o _ hb _ e n => u.keep b o e n hb (by simp)) (fun b o _ hb _ e n => u.slot b o e n hb (by simp)) (fun b o _ e n => u.free b o e n (by simp)) (fun b o _ e => u.there b o e (by simp)) u.tups u.frzs u.tbls (fun m' hm => by
    obtain ⟨o', es', ep', ho', r'⟩ := hm
    rw [ho] at ho'; cases ho'
    exact ⟨_, es', ep', hL, r'⟩) hok I.bare
/-- behind a call (or a comprehension's block): the slots of this frame may have changed too, the records at ch may have turned -/
theorem Inv.call {g' : Array GenState} {t' : Nat} {d' : Drawn} {ch : List Addr} (I : Inv X pins σ H s) (u : Un (frs X.stack) ch H H' s.heap h') (hok : HOk X.prog X.w H' h') (hg : AllBare g')
    (hch : ∀ b ∈ ch, (b ∈ X.ex ∨ X.s₀.heap.objs.size ≤ b) ∧ b ≠ X.env.locals ∧ (∀ x c, X.env.cells.lookup x = some c → c ≠ b) ∧ ∀ p ∈ X.pn ++ pins, p.1 ≠ b) :
    Inv X pins σ H' { s with heap := h', gens := g', drawn := d', toks := t' } := by
  obtain ⟨m, ⟨o, es, ep, ho, r⟩, _⟩ := id I.loc
  obtain ⟨sl, hL⟩ := u.any ho I.free fun z => (hch _ z).2.1 rfl
  exact I.step (ch := ch) hch (fun b o hL hb hc e n => u.keep b o e n (fun z => (List.mem_cons.mp (I.stkSub b z)).elim hL hb) hc) (fun b o _ _ hc e n => u.any e n hc) (fun b o hc e n => u.free b o e n hc) (fun b o hc e => u.there b o e hc) u.tups u.frzs u.tbls (fun m' hm => by
    obtain ⟨o', es', ep', ho', r'⟩ := hm
    rw [ho] at ho'; cases ho'
    exact ⟨_, es', ep', hL, r'⟩) hok hg
/-- an untracked record of ours (an iterator) has turned -/
theorem Inv.turned {t' : Nat} {it : Addr} (I : Inv X pins σ H s) (k : ∀ b o, b ≠ it → s.heap.get? b = some o → h'.get? b = some o) (hn : H it = none) (hL : it ≠ X.env.locals)
    (h1 : it ∈ X.ex ∨ X.s₀.heap.objs.size ≤ it) (h2 : ∀ x c, X.env.cells.lookup x = some c → c ≠ it) (h3 : ∀ p ∈ X.pn ++ pins, p.1 ≠ it) : Inv X pins σ H { s with heap := h', toks := t' } := by
  have nit : ∀ b u, H b = some u → b ≠ it := fun b u e z => by rw [z, hn] at e; cases e
  refine I.step (g' := s.gens) (d' := s.drawn) (ch := [it]) (fun b hb => ?_) (fun b o _ _ hc e _ => k b o (fun z => hc (by simp [z])) e) (fun b o _ _ hc e _ => ⟨o.slots, k b o (fun z => hc (by simp [z])) e⟩) (fun _ _ _ _ n => n)
    (fun b o hc e => ⟨o, k b o (fun z => hc (by simp [z])) e⟩) (fun _ _ e => e) (fun _ _ _ e => e) (fun b ps e => ⟨#[], by rw [e]; simp⟩) (fun m hm => ?_) (fun b u e => ?_) I.bare
  · have e : b = it := by simpa using hb
    subst e
    exact ⟨h1, hL, h2, h3⟩
  · obtain ⟨o, es, ep, ho, r⟩ := hm
    exact ⟨o, es, ep, k _ o (Ne.symm hL) ho, r⟩
  · refine (I.hok b u e).stay (fun c v hc q => k c v ?_ q) (fun _ q => q) fun _ _ q => q
    rcases hc with z | z
    · rw [z]; exact nit b u e
    · exact nit c _ z
theorem Inv.tok (I : Inv X pins σ H s) (t : Nat) : Inv X pins σ H { s with toks := t } := I.un (h' := s.heap) (t' := t) Un.refl I.hok
/-- all objects kept -/
theorem Inv.kept {t' : Nat} (I : Inv X pins σ H s) (k : ∀ b u, s.heap.get? b = some u → h'.get? b = some u) : Inv X pins σ H { s with heap := h', toks := t' } := I.un (Un.kept k) (I.hok.kept k)
/-- a new object laid and tracked -/
theorem Inv.laid {a : Addr} {o : HO} {t' : Nat} (I : Inv X pins σ H s) (k : ∀ b u, s.heap.get? b = some u → h'.get? b = some u) (hp : s.heap.objs.size ≤ a) (new : ObjOk X.prog X.w (upd H a o) h' a o) :
    Inv X pins σ (upd H a o) { s with heap := h', toks := t' } := I.un (Un.laid k hp (I.hok.fresh hp)) (I.hok.laid k hp new)
/-- an object written -/
theorem Inv.write {x e : Addr} {o : HO} {t' : Nat} (I : Inv X pins σ H s) (mu : Mut (H x)) (he : e = x ∨ H e = some (.own x)) (k : ∀ b u, b ≠ e → s.heap.get? b = some u → h'.get? b = some u) (heo : ∃ u, h'.get? e = some u)
    (new : ObjOk X.prog X.w (upd H x o) h' x o) : Inv X pins σ (upd H x o) { s with heap := h', toks := t' } := I.un (Un.write mu he k heo) (I.hok.write mu he k heo new)
/-- forgetting slots, pins -/
theorem Inv.weak {σ' : List (Option V)} (I : Inv X pins σ H s) (hl : σ'.length = σ.length) (w : ∀ (i : Nat) v, σ'[i]? = some (some v) → σ[i]? = some (some v)) : Inv X pins σ' H s :=
  ⟨I.ok, I.os, I.bare, I.base, let ⟨m, hn, hl'⟩ := I.loc; ⟨m, hn, fun i x v e1 e2 e3 => hl' i x v e1 (w i v e2) e3⟩, I.cell, I.free, I.freeC, I.pin, I.hok, hl.trans I.len⟩
theorem Inv.pins_of {pins' : List (Addr × Obj)} (I : Inv X pins σ H s) (h : ∀ p ∈ pins', s.heap.get? p.1 = some p.2 ∧ H p.1 = none ∧ p.1 ≠ X.env.locals ∧ p.1 ∉ X.fs ∧ ∀ v, p.2.data ≠ .cell v) : Inv X pins' σ H s :=
  ⟨I.ok, I.os, I.bare, I.base, I.loc, I.cell, I.free, I.freeC, fun p hp => (List.mem_append.mp hp).elim (fun z => I.pin p (List.mem_append_left _ z)) (h p), I.hok, I.len⟩

theorem nodup_ix {N : List Str} (hN : N.Nodup) {i j : Nat} {x : Str} (a : N[i]? = some x) (b : N[j]? = some x) : i = j := by
  obtain ⟨h1, e1⟩ := List.getElem?_eq_some_iff.mp a
  obtain ⟨h2, e2⟩ := List.getElem?_eq_some_iff.mp b
  exact (List.getElem_inj hN).mp (e1.trans e2.symm)

/-- a name is stored; what changed -/
theorem store_ok2 {M : Model} {A : Around} {E : Value → Shared → Prop} {i : Nat} {x : Str} {v : V} {u : Value} {Q : Unit → Shared → Prop} (I : Inv X pins σ H s) (hN : X.N.Nodup) (hi : X.N[i]? = some x) (hx : Loc X.env.scope x) (r : RelV v u)
    (h : ∀ s', Inv X pins (σ.set i (some v)) H s' → (∃ a, Heap.SameBut a s.heap s'.heap ∧ (a = X.env.locals ∨ X.env.cells.lookup x = some a)) → Q () s') (hf : X.fn x = true ∨ X.env.scope.names.lookup x = some .local := by first | exact .inl rfl | exact .inr rfl | assumption) : wpAny M A (storeName X.env x u) Q E s := by
  obtain ⟨m, hn, hl⟩ := id I.loc
  have hcls : (X.env.scope.kind == .class || (X.env.scope.kind == .module && X.env.locals != X.env.globals)) = false := by rw [I.ok.kind]; rfl
  have hiσ : i < σ.length := by rw [I.len]; exact (List.getElem?_eq_some_iff.mp hi).1
  have cne := I.cne
  have tracked : ∀ {a : Addr} {h' : Heap}, (∃ o, s.heap.get? a = some o ∧ H a = none) → Heap.SameBut a s.heap h' → HOk X.prog X.w H h' := fun {a h'} ha hs b ob e => by
    obtain ⟨_, _, hfree⟩ := ha
    refine (I.hok b ob e).stay (fun c w' hc q => (hs.2 c ?_).trans q) (fun _ q => q) fun _ _ q => q
    rintro rfl
    rcases hc with rfl | hc
    · rw [hfree] at e; cases e
    · rw [hfree] at hc; cases hc
  rcases hx with hk | hk
  · refine wpAny_storeName_local hk hn (fun h' hn' hs => ?_) hcls
    obtain ⟨oL, _, _, hoL, _⟩ := id hn
    refine h _ ⟨I.ok, I.os, I.bare, ⟨fun b o e n hb hx => ?_, fun b o e n hb hx => ?_, I.base.free, fun b o e hx => ?_, I.base.tups, I.base.frzs, I.base.tbls⟩, ⟨_, hn', fun j y v' e1 e2 e3 => ?_⟩, fun y c e => ?_, I.free, I.freeC, fun p hp => ?_, tracked ⟨oL, hoL, I.free⟩ hs, by simpa using I.len⟩ ⟨_, hs, .inl rfl⟩
    · exact (hs.2 b (Nat.ne_of_lt (Nat.lt_of_lt_of_le (Heap.lt_size e) I.ok.above))).trans (I.base.keep b o e n hb hx)
    · obtain ⟨sl, e1⟩ := I.base.slot b o e n hb hx
      exact ⟨sl, (hs.2 b (Nat.ne_of_lt (Nat.lt_of_lt_of_le (Heap.lt_size e) I.ok.above))).trans e1⟩
    · obtain ⟨o', e1⟩ := I.base.there b o e hx
      exact ⟨o', (hs.2 b (Nat.ne_of_lt (Nat.lt_of_lt_of_le (Heap.lt_size e) I.ok.above))).trans e1⟩
    · by_cases hj : j = i
      · subst hj
        rw [hi] at e1; cases e1
        rw [List.getElem?_set_self hiσ] at e2
        cases e2
        exact ⟨u, r, .inl ⟨hk, by simp⟩⟩
      · rw [List.getElem?_set_ne (Ne.symm hj)] at e2
        obtain ⟨u', r', q⟩ := hl j y v' e1 e2 e3
        refine ⟨u', r', ?_⟩
        rcases q with ⟨k, e⟩ | ⟨k, c, e, z⟩
        · refine .inl ⟨k, ?_⟩
          have : y ≠ x := fun e => hj (nodup_ix hN e1 (e ▸ hi))
          simp [this, e]
        · exact .inr ⟨k, c, e, z.sameBut hs (cne y c e)⟩
    · obtain ⟨w', z⟩ := I.cell y c e
      exact ⟨w', z.sameBut hs (cne y c e)⟩
    · obtain ⟨e, n, ne, nf, d⟩ := I.pin p hp
      exact ⟨(hs.2 p.1 ne).trans e, n, ne, nf, d⟩
  · have hfn : X.fn x = true := by
      rcases hf with z | z
      · exact z
      · rw [z] at hk; cases hk
    obtain ⟨c, hc⟩ := I.ok.has x (.inl hk)
    obtain ⟨w', z⟩ := I.cell x c hc
    refine wpAny_storeName_cell I.ok.kind hk hc z (fun h' hc' hs => ?_)
    obtain ⟨oc, hoc, hocd⟩ := id z
    refine h { s with heap := h' } ⟨I.ok, I.os, I.bare, ⟨fun b o e n hb hx => ?_, fun b o e n hb hx => ?_, I.base.free, fun b o e hx => ?_, I.base.tups, I.base.frzs, I.base.tbls⟩, ⟨m, hn.sameBut hs (Ne.symm (cne x c hc)), fun j y v' e1 e2 e3 => ?_⟩, fun y c' e => ?_, I.free, I.freeC, fun p hp => ?_, tracked ⟨oc, hoc, I.freeC x c hc⟩ hs, by simpa using I.len⟩ ⟨c, hs, .inr hc⟩
    · exact (hs.2 b (Nat.ne_of_lt (Nat.lt_of_lt_of_le (Heap.lt_size e) (I.ok.cab x c hfn hc)))).trans (I.base.keep b o e n hb hx)
    · obtain ⟨sl, e1⟩ := I.base.slot b o e n hb hx
      exact ⟨sl, (hs.2 b (Nat.ne_of_lt (Nat.lt_of_lt_of_le (Heap.lt_size e) (I.ok.cab x c hfn hc)))).trans e1⟩
    · obtain ⟨o', e1⟩ := I.base.there b o e hx
      exact ⟨o', (hs.2 b (Nat.ne_of_lt (Nat.lt_of_lt_of_le (Heap.lt_size e) (I.ok.cab x c hfn hc)))).trans e1⟩
    · by_cases hj : j = i
      · subst hj
        rw [hi] at e1; cases e1
        rw [List.getElem?_set_self hiσ] at e2
        cases e2
        exact ⟨u, r, .inr ⟨.inl hk, c, hc, hc'⟩⟩
      · rw [List.getElem?_set_ne (Ne.symm hj)] at e2
        obtain ⟨u', r', q⟩ := hl j y v' e1 e2 e3
        refine ⟨u', r', ?_⟩
        rcases q with q | ⟨k, c', e, z'⟩
        · exact .inl q
        · refine .inr ⟨k, c', e, z'.sameBut hs ?_⟩
          rintro rfl
          exact hj (nodup_ix hN e1 (I.ok.inj _ _ _ e hc ▸ hi))
    · by_cases hcc : c' = c
      · subst hcc; exact ⟨_, hc'⟩
      · obtain ⟨w2, z2⟩ := I.cell y c' e
        exact ⟨w2, z2.sameBut hs hcc⟩
    · obtain ⟨e, n, ne, nf, d⟩ := I.pin p hp
      refine ⟨(hs.2 p.1 ?_).trans e, n, ne, nf, d⟩
      intro q
      rw [q, hoc] at e
      have q' : oc = p.2 := Option.some.inj e
      exact d w' (by rw [← q']; exact hocd)
theorem store_ok {M : Model} {A : Around} {E : Value → Shared → Prop} {i : Nat} {x : Str} {v : V} {u : Value} {Q : Unit → Shared → Prop} (I : Inv X pins σ H s) (hN : X.N.Nodup) (hi : X.N[i]? = some x) (hx : Loc X.env.scope x) (r : RelV v u)
    (h : ∀ s', Inv X pins (σ.set i (some v)) H s' → Q () s') (hf : X.fn x = true ∨ X.env.scope.names.lookup x = some .local := by first | exact .inl rfl | exact .inr rfl | assumption) : wpAny M A (storeName X.env x u) Q E s :=
  store_ok2 I hN hi hx r (fun s' I' _ => h s' I') hf
/-- behind a call or a block, the state as it is -/
theorem Inv.call' {s' : Shared} {ch : List Addr} (I : Inv X pins σ H s) (ho : s'.os = s.os) (u : Un (frs X.stack) ch H H' s.heap s'.heap) (hok : HOk X.prog X.w H' s'.heap) (hg : AllBare s'.gens)
    (hch : ∀ b ∈ ch, (b ∈ X.ex ∨ X.s₀.heap.objs.size ≤ b) ∧ b ≠ X.env.locals ∧ (∀ x c, X.env.cells.lookup x = some c → c ≠ b) ∧ ∀ p ∈ X.pn ++ pins, p.1 ≠ b) : Inv X pins σ H' s' := by
  obtain ⟨h', g', d', t', o'⟩ := s'
  have e : o' = s.os := ho
  subst e
  exact I.call (g' := g') (t' := t') (d' := d') u hok hg hch
end

/-! ### the judgements -/
/-- an exception: its class, its own dict's address (where it has one), the abstract heap behind it -/
abbrev XK := Value → Option Addr → Hp → Prop
abbrev St := List (Option V)
abbrev VK := V → Hp → Prop
/-- an expression's reading; a test's; an argument list's -/
abbrev TE := St → Hp → VK → Prop
abbrev TT := St → Hp → (Bool → Hp → Prop) → Prop
abbrev TA := St → Hp → (List V → Hp → Prop) → Prop
/-- what is wanted behind a statement -/
structure Ends where
  nx : St → Hp → Prop
  rt : VK
  bk : St → Hp → Prop := fun _ _ => False
  ct : St → Hp → Prop := fun _ _ => False
abbrev TS := Ends → St → Hp → Prop

def EP (X : Cx) (pins : List (Addr × Obj)) (σ : St) (Q : VK) (u : Value) (s' : Shared) : Prop := ∃ v H', Inv X pins σ H' s' ∧ RelV v u ∧ Q v H'
def TP (X : Cx) (pins : List (Addr × Obj)) (σ : St) (Q : Bool → Hp → Prop) (b : Bool) (s' : Shared) : Prop := ∃ H', Inv X pins σ H' s' ∧ Q b H'
def AP (X : Cx) (pins : List (Addr × Obj)) (σ : St) (Q : List V → Hp → Prop) (us : List Value) (s' : Shared) : Prop := ∃ vs H', Inv X pins σ H' s' ∧ Vals vs us ∧ Q vs H'
def SP (X : Cx) (pins : List (Addr × Obj)) (D : Ends) (f : Flow) (s' : Shared) : Prop :=
  match f with
  | .next => ∃ σ' H', Inv X pins σ' H' s' ∧ D.nx σ' H'
  | .brk => ∃ σ' H', Inv X pins σ' H' s' ∧ D.bk σ' H'
  | .cont => ∃ σ' H', Inv X pins σ' H' s' ∧ D.ct σ' H'
  | .ret u => ∃ v σ' H', Inv X pins σ' H' s' ∧ RelV v u ∧ D.rt v H'

def PE (X : Cx) (e : Expr) (t : TE) : Prop :=
  ∀ (pins : List (Addr × Obj)) (s : Shared) (σ : St) (H : Hp) (Q : VK), Inv X pins σ H s → t σ H Q → wpAny (model X.prog X.w) X.A (eval e X.env) (EP X pins σ Q) X.xe s
def PT (X : Cx) (e : Expr) (t : TT) : Prop :=
  ∀ (pins : List (Addr × Obj)) (s : Shared) (σ : St) (H : Hp) (Q : Bool → Hp → Prop), Inv X pins σ H s → t σ H Q → wpAny (model X.prog X.w) X.A (isTrue e X.env (eval e X.env)) (TP X pins σ Q) X.xe s
/-- a test whatever its 'whole' is (and, or) -/
def PW (X : Cx) (e : Expr) (t : TT) : Prop :=
  ∀ (whole : Sem Value) (pins : List (Addr × Obj)) (s : Shared) (σ : St) (H : Hp) (Q : Bool → Hp → Prop), Inv X pins σ H s → t σ H Q → wpAny (model X.prog X.w) X.A (isTrue e X.env whole) (TP X pins σ Q) X.xe s
theorem PW.pt {X : Cx} {e : Expr} {t : TT} (h : PW X e t) : PT X e t := h _
/-- an argument list (no star), from the left -/
def PA (X : Cx) (es : List Expr) (t : TA) : Prop :=
  ∀ (pos : Pos) (pins : List (Addr × Obj)) (s : Shared) (σ : St) (H : Hp) (Q : List V → Hp → Prop), Inv X pins σ H s → t σ H Q → wpAny (model X.prog X.w) X.A (spliced (backTo pos (starEach es X.env))) (AP X pins σ Q) X.xe s
def PS (X : Cx) (st : Stmt) (t : TS) : Prop :=
  ∀ (pins : List (Addr × Obj)) (s : Shared) (σ : St) (H : Hp) (D : Ends), Inv X pins σ H s → t D σ H → wpAny (model X.prog X.w) X.A (exec st X.env) (SP X pins D) X.xe s
def PSs (X : Cx) (st : List Stmt) (t : TS) : Prop :=
  ∀ (pins : List (Addr × Obj)) (s : Shared) (σ : St) (H : Hp) (D : Ends), Inv X pins σ H s → t D σ H → wpAny (model X.prog X.w) X.A (execs st X.env) (SP X pins D) X.xe s
/-- weaken the end -/
theorem ep_elim {X : Cx} {pins : List (Addr × Obj)} {σ : St} {Q : VK} {u : Value} {s' : Shared} {C : Prop} (z : EP X pins σ Q u s') (k : ∀ (v : V) (H' : Hp), Inv X pins σ H' s' → RelV v u → Q v H' → C) : C := by
  obtain ⟨v, H', I, r, q⟩ := z
  exact k v H' I r q
theorem ap_elim {X : Cx} {pins : List (Addr × Obj)} {σ : St} {Q : List V → Hp → Prop} {us : List Value} {s' : Shared} {C : Prop} (z : AP X pins σ Q us s') (k : ∀ (vs : List V) (H' : Hp), Inv X pins σ H' s' → Vals vs us → Q vs H' → C) : C := by
  obtain ⟨v, H', I, r, q⟩ := z
  exact k v H' I r q
theorem thn {α : Type} {t : Sem α} {Q Q' : α → Shared → Prop} {M : Model} {A : Around} {E : Value → Shared → Prop} {s : Shared} (h : wpAny M A t Q E s) (hQ : ∀ a s, Q a s → Q' a s) : wpAny M A t Q' E s := wpAny_mono h hQ fun _ _ x => x
end L2

namespace L2
open PySem PySem.Spec PyProof.Rows
section
variable {X : Cx}

/-! ### names and constants -/
inductive tVarI (i : Nat) (σ : St) (H : Hp) (Q : VK) : Prop
  | mk (v : V) : (σ[i]? = some (some v)) → (Q v H) → tVarI i σ H Q
def tVar (i : Nat) : TE := fun σ H Q => tVarI i σ H Q
def tC (v : V) : TE := fun _ H Q => Q v H
theorem pe_var {i : Nat} {x : Str} {pos : Pos} (hN : X.N[i]? = some x) (hv : Vis X.env.scope x) (hd : (x == ("__debug__" : Str)) = false := by decide) (hcd : (x == ("__classdict__" : Str)) = false := by decide) : PE X (.Name x pos) (tVar i) := by
  intro pins s σ H Q I h
  obtain ⟨v, e, h⟩ := h
  obtain ⟨m, hn, hl⟩ := I.loc
  obtain ⟨u, r, l⟩ := hl i x v hN e hv
  have fin : EP X pins σ Q u s := ⟨v, H, I, r, h⟩
  rcases l with ⟨hk, hm⟩ | ⟨hk, c, hc, hcell⟩
  · exact wpAny_Name (wpAny_loadName_local I.ok.kind hk hn hm fin) hd
  · rcases hk with hk | hk
    · exact wpAny_Name (wpAny_loadName_cell I.ok.kind hk hc hcell fin) hd
    · exact wpAny_Name (wpAny_loadName_free I.ok.kind hk hc hcell fin hcd) hd
theorem pe_int {i j pos} : PE X (.Constant (.int i) j pos) (tC (.int i)) := fun _ _ _ H _ I h => wpAny_Constant_int ⟨.int i, H, I.tok _, ⟨_, rfl⟩, h⟩
theorem pe_bl {b j pos} : PE X (.Constant (.bool b) j pos) (tC (.bl b)) := fun _ _ _ H _ I h => Constant_bool ⟨.bl b, H, I, rfl, h⟩
theorem pe_non {j pos} : PE X (.Constant .none j pos) (tC .non) := fun _ _ _ H _ I h => Constant_none ⟨.non, H, I, rfl, h⟩
theorem pe_str {x j pos} : PE X (.Constant (.str x) j pos) (tC (.str x)) := fun _ _ _ H _ I h => Calls.Constant_str ⟨.str x, H, I.tok _, ⟨_, rfl⟩, h⟩

/-- a global name of the def -/
def Gl (X : Cx) (x : Str) : Prop := X.env.kindOf x = some .globalImplicit
theorem ld_glob {E : Value → Shared → Prop} {pins : List (Addr × Obj)} {s : Shared} {σ : St} {H : Hp} {x : Str} {u : Value} {pos : Pos} {Q : Value → Shared → Prop} (I : Inv X pins σ H s) (hg : Gl X x) (hm : X.mg x = some u) (h : Q u s)
    (hd : (x == ("__debug__" : Str)) = false := by decide) : wpAny (model X.prog X.w) X.A (eval (.Name x pos) X.env) Q E s :=
  Calls.Name_function_global I.ok.kind hg (Calls.loadGlobal_global (by rw [I.ok.glob]; exact I.mod.glob.keeps I.bk) hm h) hd
theorem ld_blt {E : Value → Shared → Prop} {pins : List (Addr × Obj)} {s : Shared} {σ : St} {H : Hp} {x : Str} {u : Value} {pos : Pos} {Q : Value → Shared → Prop} (I : Inv X pins σ H s) (hg : Gl X x) (hm : X.mg x = none) (hv : bootBuiltins x = some u) (h : Q u s)
    (hn : x ≠ "__name__" := by decide) (hd : (x == ("__debug__" : Str)) = false := by decide) : wpAny (model X.prog X.w) X.A (eval (.Name x pos) X.env) Q E s := by
  obtain ⟨mb, h1, h2⟩ := I.mod.blt
  exact Calls.Name_function_global I.ok.kind hg (Calls.loadGlobal_builtin (by rw [I.ok.glob]; exact I.mod.glob.keeps I.bk) hm (by rw [I.ok.blt]; exact h1.keeps I.bk) ((h2 x hn).trans hv) h) hd
/-- a module's constant, a class, a function, as a value -/
theorem pe_glob {x : Str} {v : V} {u : Value} {pos : Pos} (hg : Gl X x) (hm : X.mg x = some u) (r : RelV v u) (hd : (x == ("__debug__" : Str)) = false := by decide) : PE X (.Name x pos) (tC v) :=
  fun _ _ _ H _ I h => ld_glob I hg hm ⟨v, H, I, r, h⟩ hd
/-! ### arithmetic -/
variable {a b : Expr} {ta tb : TE} {pos : Pos}
/-! ### comparisons -/
def PC (X : Cx) (op : CmpOp) (a b : Expr) (t : TE) : Prop :=
  ∀ (pins : List (Addr × Obj)) (s : Shared) (σ : St) (H : Hp) (Q : VK), Inv X pins σ H s → t σ H Q →
    wpAny (model X.prog X.w) X.A (eval a X.env) (fun v s₁ => wpAny (model X.prog X.w) X.A (eval b X.env) (fun u s₂ => wpAny (model X.prog X.w) X.A (compareOp op v u) (EP X pins σ Q) X.xe s₂) X.xe s₁) X.xe s
theorem nobehind (b : Expr) {op : CmpOp} (h : op ≠ .In) (h2 : op ≠ .NotIn) : behindInMarks op b = false := by
  have e1 : (op == CmpOp.In) = false := by cases op <;> first | rfl | exact absurd rfl h
  have e2 : (op == CmpOp.NotIn) = false := by cases op <;> first | rfl | exact absurd rfl h2
  cases b <;> simp [behindInMarks, e1, e2]
/-- is None -/
def tIsN (ta : TE) : TE := fun σ H Q => ta σ H fun x H1 => Q (.bl (decide (x = .non))) H1
def tNotN (ta : TE) : TE := fun σ H Q => ta σ H fun x H1 => Q (.bl (!decide (x = .non))) H1
theorem RelV.none_iff {x : V} {v : Value} (r : RelV x v) : (v == Value.none) = decide (x = .non) := by
  cases x with
  | non => cases r; rfl
  | bl _ => cases r; rfl
  | int _ => obtain ⟨t, rfl⟩ := r; rfl
  | str _ => obtain ⟨t, rfl⟩ := r; rfl
  | byt _ => obtain ⟨t, rfl⟩ := r; rfl
  | flt _ => obtain ⟨t, rfl⟩ := r; rfl
  | ref _ => cases r; rfl
  | ty _ => cases r; rfl
theorem pc_isN {j pos'} (ha : PE X a ta) : PC X .Is a (.Constant .none j pos') (tIsN ta) := by
  intro pins s σ H Q I h
  refine thn (ha pins s σ H _ I h) fun v s1 zz3 => ep_elim zz3 fun x H1 I1 r1 q1 => ?_
  exact Constant_none (is_none_gen ⟨.bl _, H1, I1, by rw [r1.none_iff]; rfl, q1⟩)
theorem pc_notN {j pos'} (ha : PE X a ta) : PC X .IsNot a (.Constant .none j pos') (tNotN ta) := by
  intro pins s σ H Q I h
  refine thn (ha pins s σ H _ I h) fun v s1 zz4 => ep_elim zz4 fun x H1 I1 r1 q1 => ?_
  exact Constant_none (isnot_none_gen ⟨.bl _, H1, I1, by rw [r1.none_iff]; rfl, q1⟩)
/-- a comparison as a value, as a test -/
def tB (t : TE) : TT := fun σ H Q => t σ H fun x H1 => ∃ c, x = .bl c ∧ Q c H1
theorem pe_cmp {op : CmpOp} {t : TE} (h : PC X op a b t) (h1 : behindInMarks op b = false := by first | exact nobehind _ (by decide) (by decide) | rfl) : PE X (.Compare a [op] [b] pos) t := fun pins s σ H Q I hw => wpAny_Compare1 (h pins s σ H Q I hw) h1
theorem pt_cmp {op : CmpOp} {t : TE} (h : PC X op a b t) (h1 : behindInMarks op b = false := by first | exact nobehind _ (by decide) (by decide) | rfl) : PT X (.Compare a [op] [b] pos) (tB t) := by
  intro pins s σ H Q I hw
  refine wpAny_isTrue_Compare1 (thn (h pins s σ H _ I hw) fun v s1 h1 => thn h1 fun u s2 h2 => thn h2 fun c s3 zz5 => ep_elim zz5 fun x H1 I1 r1 q1 => ?_) h1
  obtain ⟨d, rfl, q⟩ := q1
  cases r1
  exact wpAny_truthy_bool ⟨H1, I1, q⟩
/-- an expression whose value is a bool, as a test -/
theorem pt_val {e : Expr} {t : TE} (h : PE X e t) (he : ∀ whole, isTrue e X.env whole = (do let v ← whole; standAt e.pos; holding [v] (truthy v)) := by intro _; rfl) : PT X e (tB t) := by
  intro pins s σ H Q I hw
  refine isTrue_plain (thn (h pins s σ H _ I hw) fun v s1 zz6 => ep_elim zz6 fun x H1 I1 r1 q1 => ?_) (he _)
  obtain ⟨d, rfl, q⟩ := q1
  cases r1
  exact wpAny_truthy_bool ⟨H1, I1, q⟩

/-! ### and, or, not -/
variable {tA tB' : TT} {rest : List Expr}
def tAnd (t u : TT) : TT := fun σ H Q => t σ H fun c H1 => if c = true then u σ H1 Q else Q false H1
def tOr (t u : TT) : TT := fun σ H Q => t σ H fun c H1 => if c = true then Q true H1 else u σ H1 Q
def tNot (t : TT) : TT := fun σ H Q => t σ H fun c H1 => Q (!c) H1
theorem pw_and1 (ha : PT X a tA) : PW X (.BoolOp .And [a] pos) tA := by
  intro wh pins s σ H Q I h
  refine isTrue_and (thn (ha pins s σ H Q I h) fun c s1 e => ?_)
  cases c with
  | true => exact isTrue_and_nil e
  | false => exact e
theorem pw_or1 (ha : PT X a tA) : PW X (.BoolOp .Or [a] pos) tA := by
  intro wh pins s σ H Q I h
  refine isTrue_or (thn (ha pins s σ H Q I h) fun c s1 e => ?_)
  cases c with
  | false => exact isTrue_or_nil e
  | true => exact e
theorem pw_and (ha : PT X a tA) (hb : PW X (.BoolOp .And (b :: rest) pos) tB') : PW X (.BoolOp .And (a :: b :: rest) pos) (tAnd tA tB') := by
  intro wh pins s σ H Q I h
  refine isTrue_and (thn (ha pins s σ H _ I h) fun c s1 ⟨H1, I1, q1⟩ => ?_)
  cases c with
  | true => exact hb wh pins s1 σ H1 Q I1 q1
  | false => exact ⟨H1, I1, q1⟩
theorem pw_or (ha : PT X a tA) (hb : PW X (.BoolOp .Or (b :: rest) pos) tB') : PW X (.BoolOp .Or (a :: b :: rest) pos) (tOr tA tB') := by
  intro wh pins s σ H Q I h
  refine isTrue_or (thn (ha pins s σ H _ I h) fun c s1 ⟨H1, I1, q1⟩ => ?_)
  cases c with
  | true => exact ⟨H1, I1, q1⟩
  | false => exact hb wh pins s1 σ H1 Q I1 q1
theorem pt_not (ha : PT X a tA) : PT X (.UnaryOp .Not a pos) (tNot tA) := by
  intro pins s σ H Q I h
  exact isTrue_not (ha pins s σ H (fun c H1 => Q (!c) H1) I h)
/-- .. as values (bools) -/
def tAndV (ta tb : TE) : TE := fun σ H Q => ta σ H fun x H1 => ∃ c, x = .bl c ∧ if c = true then tb σ H1 Q else Q (.bl false) H1
theorem pe_one {op} {t : TE} (h : PE X a t) : PE X (.BoolOp op [a] pos) t := fun pins s σ H Q I hw => BoolOp_one (h pins s σ H Q I hw)
theorem pe_and (ha : PE X a ta) (hb : PE X (.BoolOp .And (b :: rest) pos) tb) : PE X (.BoolOp .And (a :: b :: rest) pos) (tAndV ta tb) := by
  intro pins s σ H Q I h
  refine BoolOp_and (thn (ha pins s σ H _ I h) fun v s1 zz7 => ep_elim zz7 fun x H1 I1 r1 q1 => ?_)
  obtain ⟨c, rfl, q1⟩ := q1
  cases r1
  refine wpAny_truthy_bool ?_
  cases c with
  | true => exact hb pins s1 σ H1 Q I1 q1
  | false => exact ⟨.bl false, H1, I1, rfl, q1⟩
end
end L2

namespace L2
open PySem PySem.Spec PyProof.Rows

/-! ### a list, a tuple that is read: tracked, frozen, or an object of the module -/
def SqL (K : PySem.W.Frag) (H : Hp) (a : Addr) (xs : List V) : Prop :=
  Rd H a (.lst xs) ∨
    ∃ (o : Obj) (its : Array Value) (n : Nat), K.lookup a = some o ∧ o.cls = .type "list" ∧ o.dict = none ∧ o.data = .seq its n ∧ its.size ≤ sizeLine ∧ Vals xs its.toList
def SqT (K : PySem.W.Frag) (H : Hp) (a : Addr) (xs : List V) : Prop :=
  Rd H a (.tup xs) ∨
    ∃ (o : Obj) (its : Array Value) (n : Nat), K.lookup a = some o ∧ o.cls = .type "tuple" ∧ o.data = .seq its n ∧ its.size ≤ sizeLine ∧ Vals xs its.toList
def absV : Value → Option V
  | .none => some .non
  | .bool b => some (.bl b)
  | .int i _ => some (.int i)
  | .str x _ => some (.str x)
  | .bytes b _ => some (.byt b)
  | .float b _ => some (.flt b)
  | .ref a => some (.ref a)
  | .type n => some (.ty n)
  | _ => none
theorem RelV.abs {x : V} {u : Value} (r : RelV x u) : absV u = some x := by
  cases x with
  | non => cases r; rfl
  | bl _ => cases r; rfl
  | int _ => obtain ⟨t, rfl⟩ := r; rfl
  | str _ => obtain ⟨t, rfl⟩ := r; rfl
  | byt _ => obtain ⟨t, rfl⟩ := r; rfl
  | flt _ => obtain ⟨t, rfl⟩ := r; rfl
  | ref _ => cases r; rfl
  | ty _ => cases r; rfl
theorem RelV.inj {x y : V} {u : Value} (r : RelV x u) (q : RelV y u) : x = y := Option.some.inj (r.abs.symm.trans q.abs)
theorem Vals.inj : ∀ {xs ys : List V} {us : List Value}, Vals xs us → Vals ys us → xs = ys
  | _, _, _, .nil, .nil => rfl
  | _, _, _, .cons r t, .cons r' t' => by rw [r.inj r', Vals.inj t t']
section
variable {X : Cx} {pins : List (Addr × Obj)} {σ : St} {H : Hp} {s : Shared} {a : Addr} {xs ys : List V}
theorem SqL.of {K : PySem.W.Frag} (h : H a = some (.lst xs)) : SqL K H a xs := .inl (.inl h)
theorem SqT.of {K : PySem.W.Frag} (h : H a = some (.tup xs)) : SqT K H a xs := .inl (.inl h)
theorem Inv.list (I : Inv X pins σ H s) (h : SqL X.K H a xs) : ∃ its : List Value, Vals xs its ∧ PlainL s.heap a its.toArray ∧ xs.length ≤ sizeLine := by
  rcases h with h | ⟨o, its, n, hk, hc, hd, hs, hz, r⟩
  · obtain ⟨z, its, n, r, e⟩ := h.ok I.hok
    exact ⟨its, r, ⟨_, n, e, rfl, rfl, rfl⟩, z⟩
  · refine ⟨its.toList, r, ⟨o, n, I.kIn a o hk, hc, hd, by simpa using hs⟩, ?_⟩
    have e := r.length
    simp only [Array.length_toList] at e
    (first | lia | omega)
theorem Inv.tuple (I : Inv X pins σ H s) (h : SqT X.K H a xs) : ∃ its : List Value, Vals xs its ∧ IsTup s.heap a its.toArray ∧ xs.length ≤ sizeLine := by
  rcases h with h | ⟨o, its, n, hk, hc, hs, hz, r⟩
  · obtain ⟨z, its, r, p⟩ := h.ok I.hok
    exact ⟨its, r, p, z⟩
  · refine ⟨its.toList, r, ⟨o, I.kIn a o hk, hc, n, by simpa using hs⟩, ?_⟩
    have e := r.length
    simp only [Array.length_toList] at e
    (first | lia | omega)
theorem Inv.list_inj (I : Inv X pins σ H s) (h : SqL X.K H a xs) (h' : SqL X.K H a ys) : xs = ys := by
  obtain ⟨its, r, ⟨o, n, e, _, _, d⟩, _⟩ := I.list h
  obtain ⟨its', r', ⟨o', n', e', _, _, d'⟩, _⟩ := I.list h'
  rw [e] at e'; cases e'
  rw [d] at d'
  injection d' with d1 _
  have : its = its' := by simpa using congrArg Array.toList d1
  subst this
  exact r.inj r'
end

/-! ### another wish about exceptions -/
abbrev Cx.wish (X : Cx) (E : Value → Shared → Prop) : Cx := { X with xe := E }
/-- no exception leaves -/
abbrev Cx.nox (X : Cx) : Cx := X.wish fun _ _ => False
theorem Cx.Ok.wish {X : Cx} (ok : X.Ok) (E : Value → Shared → Prop) : (X.wish E).Ok :=
  ⟨ok.mod, ok.kind, ok.glob, ok.blt, ok.above, ok.inj, ok.has, ok.cab, ok.hd, ok.frames, ok.stk, ok.exf, ok.bs, ok.bsz, ok.noex, ok.exfs, ok.funs, ok.frf⟩
theorem Cx.Ok.unwish {X : Cx} {E : Value → Shared → Prop} (ok : (X.wish E).Ok) : X.Ok :=
  ⟨ok.mod, ok.kind, ok.glob, ok.blt, ok.above, ok.inj, ok.has, ok.cab, ok.hd, ok.frames, ok.stk, ok.exf, ok.bs, ok.bsz, ok.noex, ok.exfs, ok.funs, ok.frf⟩
section
variable {X : Cx} {pins : List (Addr × Obj)} {σ : St} {H : Hp} {s : Shared} {E : Value → Shared → Prop}
theorem Inv.wish (I : Inv X pins σ H s) (E : Value → Shared → Prop) : Inv (X.wish E) pins σ H s := ⟨I.ok.wish E, I.os, I.bare, I.base, I.loc, I.cell, I.free, I.freeC, I.pin, I.hok, I.len⟩
theorem Inv.unwish (I : Inv (X.wish E) pins σ H s) : Inv X pins σ H s := ⟨I.ok.unwish, I.os, I.bare, I.base, I.loc, I.cell, I.free, I.freeC, I.pin, I.hok, I.len⟩
theorem SP.unwish {D : Ends} {f : Flow} {s' : Shared} (h : SP (X.wish E) pins D f s') : SP X pins D f s' := by
  cases f with
  | next => obtain ⟨σ', H', I, q⟩ := h; exact ⟨σ', H', I.unwish, q⟩
  | brk => obtain ⟨σ', H', I, q⟩ := h; exact ⟨σ', H', I.unwish, q⟩
  | cont => obtain ⟨σ', H', I, q⟩ := h; exact ⟨σ', H', I.unwish, q⟩
  | ret u => obtain ⟨v, σ', H', I, r, q⟩ := h; exact ⟨v, σ', H', I.unwish, r, q⟩
theorem PSs.nox {st : List Stmt} {t : TS} (h : PSs X.nox st t) : PSs X st t := fun pins s σ H D I hw =>
  wpAny_mono (h pins s σ H D (I.wish _) hw) (fun _ _ q => q.unwish) fun _ _ z => False.elim z
end

/-! ### blocks and small statements -/
section
variable {X : Cx} {st : Stmt} {rest : List Stmt} {t u : TS} {e : Expr} {te : TE} {pos : Pos}
def tNext : TS := fun D σ H => D.nx σ H
def tSeq (t u : TS) : TS := fun D σ H => t { D with nx := u D } σ H
theorem pss_nil : PSs X [] tNext := fun _ _ σ H _ I h => wpAny_execs_nil ⟨σ, H, I, h⟩
theorem pss_cons (h1 : PS X st t) (h2 : PSs X rest u) : PSs X (st :: rest) (tSeq t u) := by
  intro pins s σ H D I h
  refine wpAny_execs_cons (thn (h1 pins s σ H { D with nx := u D } I h) fun f s1 q => ?_)
  cases f with
  | next =>
    obtain ⟨σ', H', I', q⟩ := q
    exact h2 pins s1 σ' H' D I' q
  | ret v => exact q
  | brk => exact q
  | cont => exact q
theorem pss_one (h1 : PS X st t) : PSs X [st] t := by
  intro pins s σ H D I h
  refine wpAny_execs_cons (thn (h1 pins s σ H D I h) fun f s1 q => ?_)
  cases f with
  | next => exact wpAny_execs_nil q
  | ret v => exact q
  | brk => exact q
  | cont => exact q
/-- in a def's body nothing is shown -/
theorem Inv.quiet {pins : List (Addr × Obj)} {σ : St} {H : Hp} {s : Shared} (I : Inv X pins σ H s) : interactive X.env = false := by simp [interactive, I.ok.kind]
/-- an expression whose value is dropped -/
def tDrop (te : TE) : TS := fun D σ H => te σ H fun _ H1 => D.nx σ H1
theorem ps_expr (he : PE X e te) (hs : swapsWith e none pos.line X.env = pure false := by rfl) : PS X (.Expr e pos) (tDrop te) := by
  intro pins s σ H D I h
  exact wpAny_Expr_any (thn (he pins s σ H _ I h) fun v s1 zz10 => ep_elim zz10 fun x H1 I1 r1 q1 => ⟨σ, H1, I1, q1⟩) I.quiet hs
def tRet (te : TE) : TS := fun D σ H => te σ H D.rt
theorem ps_ret (he : PE X e te) : PS X (.Return (some e) pos) (tRet te) := by
  intro pins s σ H D I h
  exact wpAny_Return_some (thn (he pins s σ H _ I h) fun v s1 zz11 => ep_elim zz11 fun x H1 I1 r1 q1 => ⟨x, σ, H1, I1, r1, q1⟩)
def tIfS (c : TT) (t u : TS) : TS := fun D σ H => c σ H fun b H1 => if b = true then t D σ H1 else u D σ H1
theorem ps_if {c : Expr} {a b : List Stmt} {tc : TT} (hc : PT X c tc) (ha : PSs X a t) (hb : PSs X b u) : PS X (.If c a b pos) (tIfS tc t u) := by
  intro pins s σ H D I h
  refine wpAny_If (thn (hc pins s σ H _ I h) fun d s1 ⟨H1, I1, q1⟩ => ?_)
  cases d with
  | true => exact ha pins s1 σ H1 D I1 q1
  | false => exact hb pins s1 σ H1 D I1 q1
/-- code that the proof never comes to -/
def tNever : TS := fun _ _ _ => False
theorem ps_never : PS X st tNever := fun _ _ _ _ _ _ h => h.elim
end

/-! ### targets -/
abbrev TG := V → St → Hp → (St → Hp → Prop) → Prop
abbrev TGs := List V → St → Hp → (St → Hp → Prop) → Prop
def PG (X : Cx) (target : Expr) (t : TG) : Prop :=
  ∀ (pins : List (Addr × Obj)) (s : Shared) (σ : St) (H : Hp) (v : V) (u : Value) (Q : St → Hp → Prop), Inv X pins σ H s → RelV v u → t v σ H Q →
    wpAny (model X.prog X.w) X.A (assign target X.env u) (fun _ s' => ∃ σ' H', Inv X pins σ' H' s' ∧ Q σ' H') X.xe s
/-- several targets, one after another -/
def PGs (X : Cx) (ts : List Expr) (t : TGs) : Prop :=
  ∀ (pins : List (Addr × Obj)) (s : Shared) (σ : St) (H : Hp) (vs : List V) (us : List Value) (Q : St → Hp → Prop), Inv X pins σ H s → Vals vs us → t vs σ H Q →
    wpAny (model X.prog X.w) X.A (assignInOrder ((assignEach ts X.env).map (·.2)) us) (fun _ s' => ∃ σ' H', Inv X pins σ' H' s' ∧ Q σ' H') X.xe s
/-- a op= b, by values -/
abbrev TIp := V → V → Hp → VK → Prop
def PIp (X : Cx) (op : Operator) (t : TIp) : Prop :=
  ∀ (pins : List (Addr × Obj)) (s : Shared) (σ : St) (H : Hp) (x y : V) (v u : Value) (Q : VK), Inv X pins σ H s → RelV x v → RelV y u → t x y H Q →
    wpAny (model X.prog X.w) X.A (inplaceOp op v u) (EP X pins σ Q) X.xe s
section
variable {X : Cx} {pos : Pos}
def gName (i : Nat) : TG := fun v σ H Q => Q (σ.set i (some v)) H
theorem pg_name {i : Nat} {x : Str} (hN : X.N.Nodup) (hi : X.N[i]? = some x) (hx : Loc X.env.scope x) (hf : X.fn x = true ∨ X.env.scope.names.lookup x = some .local := by first | exact .inl rfl | exact .inr rfl | assumption) : PG X (.Name x pos) (gName i) := by
  intro pins s σ H v u Q I r h
  exact wpAny_assign_Name (store_ok I hN hi hx r (fun s' I' => ⟨_, H, I', h⟩) hf)
def gNil : TGs := fun vs σ H Q => vs = [] ∧ Q σ H
def gCons (t : TG) (u : TGs) : TGs := fun vs σ H Q => ∃ v r, vs = v :: r ∧ t v σ H fun σ' H' => u r σ' H' Q
theorem pgs_nil : PGs X [] gNil := by
  intro pins s σ H vs us Q I r h
  obtain ⟨e, h⟩ := h
  subst e
  cases r
  exact assignInOrder_nil ⟨σ, H, I, h⟩
theorem pgs_cons {e : Expr} {es : List Expr} {t : TG} {u : TGs} (h1 : PG X e t) (h2 : PGs X es u)
    (hs : (assignEach (e :: es) X.env).map (·.2) = assign e X.env :: (assignEach es X.env).map (·.2) := by rfl) : PGs X (e :: es) (gCons t u) := by
  intro pins s σ H vs us Q I r h
  obtain ⟨v, vr, e1, h⟩ := h
  subst e1
  cases r with
  | cons r rr =>
    rw [hs]
    refine assignInOrder_cons (thn (h1 pins s σ H _ _ _ I r h) fun _ s1 ⟨σ1, H1, I1, q1⟩ => ?_)
    exact h2 pins s1 σ1 H1 _ _ Q I1 rr q1
/-- (a, b, ..) = a tuple of that length -/
def gTup (K : PySem.W.Frag) (n : Nat) (t : TGs) : TG := fun v σ H Q => ∃ a xs, v = .ref a ∧ SqT K H a xs ∧ xs.length = n ∧ t xs σ H Q
theorem pg_tup {es : List Expr} {k : Nat} {t : TGs} {n : Nat} (hc : X.calm = true) (h : PGs X es t)
    (hn : (assignEach es X.env).length = n := by rfl) (hst : (assignEach es X.env).findIdx? (·.1) = none := by rfl) : PG X (.Tuple es k pos) (gTup X.K n t) := by
  intro pins s σ H v u Q I r hw
  obtain ⟨a, xs, e1, hq, hl, hw⟩ := hw
  subst e1
  cases r
  obtain ⟨its, rv, ht, hz⟩ := I.tuple hq
  refine assign_Tuple_tuple (I.ok.hd hc) ht (by simp [hn, ← hl, rv.length]) hst fun h' hx => ?_
  have I1 : Inv X pins σ H { s with heap := h' } := I.kept (t' := s.toks) fun b o e => hx b o (Nat.ne_of_lt (Heap.lt_size e)) e
  exact h pins _ σ H xs _ Q I1 (by simpa using rv) hw
/-- target = value -/
def tAsg (te : TE) (g : TG) : TS := fun D σ H => te σ H fun x H1 => g x σ H1 D.nx
theorem ps_asg {tg e : Expr} {te : TE} {g : TG} (he : PE X e te) (hg : PG X tg g) (hs : swapsWithSole [tg] e pos.line X.env = pure false := by rfl) (hw : swappedStores [tg] e X.env = pure none := by rfl)
    (h1 : (assignEach [tg] X.env).map (·.2) = [assign tg X.env] := by rfl) : PS X (.Assign [tg] e pos) (tAsg te g) := by
  intro pins s σ H D I h
  refine wpAny_Assign_stores (thn (he pins s σ H _ I h) fun v s1 zz14 => ep_elim zz14 fun x H1 I1 r1 q1 => ?_) hs hw
  rw [h1]
  exact thn (hg pins s1 σ H1 x v _ I1 r1 q1) fun _ s2 q => q
/-- name = value -/
theorem ps_set {i : Nat} {x : Str} {e : Expr} {te : TE} {pos' : Pos} (hN : X.N.Nodup) (hi : X.N[i]? = some x) (hx : Loc X.env.scope x) (he : PE X e te) (hs : swapsWith e (some (.Name x pos')) pos.line X.env = pure false := by rfl) (hf : X.fn x = true ∨ X.env.scope.names.lookup x = some .local := by first | exact .inl rfl | exact .inr rfl | assumption) :
    PS X (.Assign [.Name x pos'] e pos) (tAsg te (gName i)) := by
  intro pins s σ H D I h
  refine wpAny_Assign_Name (thn (he pins s σ H _ I h) fun v s1 zz15 => ep_elim zz15 fun y H1 I1 r1 q1 => ?_) hs
  exact store_ok I1 hN hi hx r1 (fun s2 I2 => ⟨_, H1, I2, q1⟩) hf
/-- name op= e -/
def tAug (i : Nat) (te : TE) (ti : TIp) : TS := fun D σ H => ∃ x, σ[i]? = some (some x) ∧ te σ H fun y H1 => ti x y H1 fun z H2 => D.nx (σ.set i (some z)) H2
theorem ps_aug {i : Nat} {x : Str} {e : Expr} {te : TE} {op : Operator} {ti : TIp} {pos' : Pos} (hN : X.N.Nodup) (hi : X.N[i]? = some x) (hx : Loc X.env.scope x) (he : PE X e te) (ho : PIp X op ti) (hf : X.fn x = true ∨ X.env.scope.names.lookup x = some .local := by first | exact .inl rfl | exact .inr rfl | assumption) :
    PS X (.AugAssign (.Name x pos') op e pos) (tAug i te ti) := by
  intro pins s σ H D I h
  obtain ⟨v, e1, h⟩ := h
  obtain ⟨m, hn, hl⟩ := I.loc
  have vis : Vis X.env.scope x := by rcases hx with k | k; exact .inl k; exact .inr (.inl k)
  obtain ⟨u, r, l⟩ := hl i x v hi e1 vis
  refine wpAny_AugAssign_Name ?_
  have go : wpAny (model X.prog X.w) X.A (eval e X.env) (fun w s₂ => wpAny (model X.prog X.w) X.A (inplaceOp op u w) (fun r s₃ => wpAny (model X.prog X.w) X.A (storeName X.env x r) (fun _ => SP X pins D .next) X.xe s₃) X.xe s₂) X.xe s := by
    refine thn (he pins s σ H _ I h) fun w s1 zz17 => ep_elim zz17 fun y H1 I1 r1 q1 => ?_
    refine thn (ho pins s1 σ H1 v y u w _ I1 r r1 q1) fun z s2 zz18 => ep_elim zz18 fun zv H2 I2 r2 q2 => ?_
    exact store_ok I2 hN hi hx r2 (fun s3 I3 => ⟨_, H2, I3, q2⟩) hf
  rcases l with ⟨hk, hm⟩ | ⟨hk, c, hc, hcell⟩
  · exact wpAny_loadName_local I.ok.kind hk hn hm go
  · rcases hk with hk | hk
    · exact wpAny_loadName_cell I.ok.kind hk hc hcell go
    · rcases hx with k | k
      · have : X.env.scope.names.lookup x = some .free := hk
        rw [k] at this; cases this
      · have : X.env.scope.names.lookup x = some .free := hk
        rw [k] at this; cases this
/-- ints -/
def ipI (f : Int → Int → Int) : TIp := fun x y H Q => ∃ i j, x = .int i ∧ y = .int j ∧ Q (.int (f i j)) H
theorem ip_add : PIp X .Add (ipI fun i j => i + j) := by
  intro pins s σ H x y v u Q I r1 r2 h
  obtain ⟨i, j, e1, e2, q⟩ := h
  subst e1; subst e2
  obtain ⟨t, rfl⟩ := r1
  obtain ⟨t', rfl⟩ := r2
  exact iadd_int ⟨.int _, H, I.tok _, ⟨_, rfl⟩, q⟩
end

/-! ### while -/
section
variable {X : Cx} {pos : Pos}
/-- the invariant W with its measure -/
def tWhile (c : TT) (tb : TS) : TS := fun D σ H => ∃ W : Nat → St → Hp → Prop, (∃ m, W m σ H) ∧ ∀ m σ H, W m σ H →
  c σ H fun b H1 => if b = true then ∃ N : St → Hp → Prop, (∀ σ' H', N σ' H' → ∃ m', m' < m ∧ W m' σ' H') ∧ tb { D with nx := N, ct := N, bk := D.nx } σ H1 else D.nx σ H1
theorem ps_while {c : Expr} {body : List Stmt} {tc : TT} {tb : TS} (hp : PassesOwn (model X.prog X.w) X.A X.env X.xe) (hc : PT X c tc) (hb : PSs X body tb) : PS X (.While c body [] pos) (tWhile tc tb) := by
  intro pins s σ H D I h
  obtain ⟨W, ⟨m0, w0⟩, turn⟩ := h
  refine wpAny_While (codeAny_whileLoop (fun n s' => ∃ σ' H', Inv X pins σ' H' s' ∧ W n σ' H') ?_ m0 ⟨σ, H, I, w0⟩)
  rintro n s1 ⟨σ1, H1, I1, w1⟩
  refine wpAny_passesOwn hp (thn (hc pins s1 σ1 H1 _ I1 (turn n σ1 H1 w1)) fun b s2 ⟨H2, I2, q2⟩ => ?_)
  cases b with
  | true =>
    obtain ⟨N, hN, q2⟩ := q2
    rw [if_pos rfl]
    refine wpAny_passesOwn hp (thn (hb pins s2 σ1 H2 _ I2 q2) fun f s3 q3 => ?_)
    cases f with
    | next =>
      obtain ⟨σ3, H3, I3, n3⟩ := q3
      obtain ⟨m', hm, w3⟩ := hN σ3 H3 n3
      exact ⟨m', hm, σ3, H3, I3, w3⟩
    | cont =>
      obtain ⟨σ3, H3, I3, n3⟩ := q3
      obtain ⟨m', hm, w3⟩ := hN σ3 H3 n3
      exact ⟨m', hm, σ3, H3, I3, w3⟩
    | brk => exact q3
    | ret v => exact q3
  | false =>
    rw [if_neg Bool.false_ne_true]
    exact wpAny_execs_nil ⟨σ1, H2, I2, q2⟩
end

/-! ### what a loop or a comprehension walks -/
/-- at turn i: it yields x (the heap may grow), or it stops -/
structure It where
  go : Nat → Hp → Prop
  yld : Nat → Hp → V → Hp → Prop
  stop : Nat → Hp → Prop
/-- the iterator's own objects may turn: they are not the frame's, not pinned, younger than the entry (or a comprehension's own) -/
def FpOk (X : Cx) (pins : List (Addr × Obj)) (H : Hp) (b : Addr) : Prop :=
  H b = none ∧ b ≠ X.env.locals ∧ b ∉ X.fs ∧ (b ∈ X.ex ∨ X.s₀.heap.objs.size ≤ b) ∧ (∀ x c, X.env.cells.lookup x = some c → c ≠ b) ∧ ∀ p ∈ X.pn ++ pins, p.1 ≠ b
theorem Inv.fpOk {X : Cx} {pins : List (Addr × Obj)} {σ : St} {H H' : Hp} {s : Shared} {b : Addr} (I : Inv X pins σ H s) (hb : s.heap.objs.size ≤ b) (hn : H' b = none) : FpOk X pins H' b := by
  refine ⟨hn, Nat.ne_of_gt (Nat.lt_of_lt_of_le I.lt hb), I.nofs hb, .inr (Nat.le_trans I.sz hb), fun x c e z => ?_, fun p hp z => ?_⟩
  · obtain ⟨v, q⟩ := I.cell x c e
    exact absurd (Nat.lt_of_lt_of_le q.lt (by rw [z]; exact hb)) (Nat.lt_irrefl _)
  · exact absurd (Nat.lt_of_lt_of_le (Heap.lt_size (I.pin p hp).1) (by rw [z]; exact hb)) (Nat.lt_irrefl _)
structure Turn (P : Program) (w : World) (K : PySem.W.Frag) (tg : Expr) (J : It) (fp : List Addr) (it : Addr) (tn : Nat → Heap → Prop) : Prop where
  mem : it ∈ fp
  obj : ∀ i h, tn i h → ∀ b ∈ fp, ∃ o, h.get? b = some o ∧ ∀ v, o.data ≠ .cell v
  keep : ∀ i h h', tn i h → (∀ b ∈ fp, ∀ o, h.get? b = some o → h'.get? b = some o) → tn i h'
  item : ∀ (X : Cx), X.prog = P → X.w = w → X.K = K → X.calm = true → ∀ (i : Nat) (pins : List (Addr × Obj)) (s : Shared) (σ : St) (H : Hp) (E : Value → Shared → Prop), Inv X pins σ H s → (∀ b ∈ fp, FpOk X pins H b) → tn i s.heap → J.go i H →
    wpAny (model P w) X.A (pyNext (.ref it)) (fun r s1 => ∃ u, r = some u ∧
      wpAny (model P w) X.A (letOwnedTupleGo tg (.ref it) u) (fun _ s2 => ∃ x H', Inv X pins σ H' s2 ∧ RelV x u ∧ J.yld i H x H' ∧ tn (i + 1) s2.heap ∧ ∀ b ∈ fp, H' b = none) E s1) E s
  done : ∀ (X : Cx), X.prog = P → X.w = w → X.K = K → X.calm = true → ∀ (i : Nat) (pins : List (Addr × Obj)) (s : Shared) (σ : St) (H : Hp) (E : Value → Shared → Prop), Inv X pins σ H s → (∀ b ∈ fp, FpOk X pins H b) → tn i s.heap → J.stop i H →
    wpAny (model P w) X.A (pyNext (.ref it)) (fun r s1 => r = none ∧ Inv X pins σ H s1) E s
  self : ∀ (A : Around) (i : Nat) (s : Shared) (Q : Value → Shared → Prop) (E : Value → Shared → Prop), tn i s.heap → Q (.ref it) s → wpAny (model P w) A (pyIter (.ref it)) Q E s
abbrev TI := St → Hp → (It → Hp → Prop) → Prop
/-- an iterator has come -/
def PIE (X : Cx) (pins : List (Addr × Obj)) (σ : St) (tg : Expr) (R : It → Hp → Prop) (itv : Value) (s2 : Shared) : Prop :=
  ∃ (it : Addr) (fp : List Addr) (tn : Nat → Heap → Prop) (J : It) (H' : Hp), itv = .ref it ∧ Inv X pins σ H' s2 ∧ Turn X.prog X.w X.K tg J fp it tn ∧ tn 0 s2.heap ∧ (∀ b ∈ fp, FpOk X pins H' b) ∧ R J H'
def PI (X : Cx) (tg iter : Expr) (wi : TI) : Prop :=
  ∀ (pins : List (Addr × Obj)) (s : Shared) (σ : St) (H : Hp) (R : It → Hp → Prop), Inv X pins σ H s → wi σ H R →
    wpAny (model X.prog X.w) X.A (eval iter X.env) (fun v s1 => wpAny (model X.prog X.w) X.A (pyIter v) (PIE X pins σ tg R) X.xe s1) X.xe s

/-- the step ahead of the store is nothing for an iterator that keeps no tuple -/
theorem go_of {M : Model} {A : Around} {E : Value → Shared → Prop} {s : Shared} {tg : Expr} {it : Addr} {u : Value} {o : Obj} {n : String} {vs : Array Value} {Q : Unit → Shared → Prop} (ho : s.heap.get? it = some o) (hc : o.cls = .type n) (hd : o.data = .fields vs)
    (hn : ["enumerate", "zip", "dict_itemiterator", "dict_reverseitemiterator", "odict_iterator", "itertools.zip_longest", "itertools.pairwise"].contains n = false) (hQ : Q () s) : wpAny M A (letOwnedTupleGo tg (.ref it) u) Q E s := by
  unfold letOwnedTupleGo
  cases tg <;> first
    | exact wpAny_pure hQ
    | (cases u <;> first
        | exact wpAny_pure hQ
        | (refine wpAny_bind (wpAny_load ho ?_)
           rw [hc, hd]
           show wpAny M A (if (["enumerate", "zip", "dict_itemiterator", "dict_reverseitemiterator", "odict_iterator", "itertools.zip_longest", "itertools.pairwise"].contains n && vs[0]? == some (rawInt _)) = true then _ else _) Q E s
           rw [if_neg (by intro h; rw [hn, Bool.false_and] at h; cases h)]
           exact wpAny_pure hQ))

/-- the list at a, as it stands at each turn (a loop may append to it) -/
def Itl (K : PySem.W.Frag) (a : Addr) : It :=
  ⟨fun i H => ∃ xs x, SqL K H a xs ∧ xs[i]? = some x, fun i H x H' => H' = H ∧ ∀ xs, SqL K H a xs → xs[i]? = some x, fun i H => ∃ xs, SqL K H a xs ∧ xs.length ≤ i⟩
/-- lo, lo + 1, .. (n of them) -/
def Itr (lo : Int) (n : Nat) : It := ⟨fun i _ => i < n, fun i H x H' => H' = H ∧ x = .int (lo + i), fun i _ => n ≤ i⟩
theorem turn_list {P : Program} {w : World} {K : PySem.W.Frag} {tg : Expr} (a it : Addr) : Turn P w K tg (Itl K a) [it] it (fun i h => h.IsListIter it a i) where
  mem := by simp
  obj := fun i h st b hb => by
    have e : b = it := by simpa using hb
    subst e
    obtain ⟨o, e, c, d⟩ := st
    exact ⟨o, e, fun v z => by rw [d] at z; cases z⟩
  keep := fun i h h' st k => st.at fun o e => k it (by simp) o e
  item := by
    intro X hP hw hK hc i pins s σ H E I hf st hg
    subst hP hw hK
    obtain ⟨xs, x, hq, hx⟩ := hg
    obtain ⟨its, rv, p, hz⟩ := I.list hq
    obtain ⟨u, hu, ru⟩ := rv.get hx
    obtain ⟨f0, f1, f2, f3, f4, f5⟩ := hf it (by simp)
    refine wpAny_pyNext_list_item st p.isList (x := u) (by simpa using hu) fun h' st' sb => ?_
    have I1 : Inv X pins σ H { s with heap := h' } := I.turned (t' := s.toks) (fun b o hb e => (sb.2 b hb).trans e) f0 f1 f3 f4 f5
    obtain ⟨o, e, c, d⟩ := id st'
    exact ⟨u, rfl, go_of (s := { s with heap := h' }) e c d (by decide) ⟨x, H, I1, ru, ⟨rfl, fun ys hy => by rw [I.list_inj hy hq]; exact hx⟩, st', fun b hb => (hf b hb).1⟩⟩
  done := by
    intro X hP hw hK hc i pins s σ H E I hf st hg
    subst hP hw hK
    obtain ⟨xs, hq, hx⟩ := hg
    obtain ⟨its, rv, p, hz⟩ := I.list hq
    obtain ⟨f0, f1, f2, f3, f4, f5⟩ := hf it (by simp)
    have hl := rv.length
    exact wpAny_pyNext_list_end (I.ok.hd hc) st p.isList (by simp; (first | lia | omega)) fun h' eb => ⟨rfl, I.turned (t' := s.toks) (fun b o hb e => eb b o hb e) f0 f1 f3 f4 f5⟩
  self := fun _ _ _ _ _ st h => wpAny_pyIter_listiter st h
theorem turn_range {P : Program} {w : World} {K : PySem.W.Frag} {tg : Expr} (it : Addr) (lo : Int) (n : Nat) : Turn P w K tg (Itr lo n) [it] it (fun i h => IsRangeIter h it (lo + (i : Nat) * 1) ((n : Int) - (i : Nat)) 1) where
  mem := by simp
  obj := fun i h st b hb => by
    have e : b = it := by simpa using hb
    subst e
    exact ⟨_, st, fun v z => by
      have z' : Data.fields _ = Data.cell v := z
      cases z'⟩
  keep := fun i h h' st k => k it (by simp) _ st
  item := by
    intro X hP hw hK hc i pins s σ H E I hf st hg
    subst hP hw hK
    obtain ⟨f0, f1, f2, f3, f4, f5⟩ := hf it (by simp)
    have W := Walks.range (prog := X.prog) (w := X.w) (I.ok.hd hc) it lo 1 n
    refine W.item i s _ _ hg st fun v h' tk hv st' kk => ?_
    obtain ⟨t, rfl⟩ := hv
    have I1 : Inv X pins σ H { s with heap := h', toks := tk } := I.turned (fun b o hb e => kk b o (by simpa using hb) e) f0 f1 f3 f4 f5
    refine ⟨_, rfl, go_of (s := { s with heap := h', toks := tk }) (n := "range_iterator") st' rfl rfl (by decide) ⟨.int (lo + i), H, I1, ⟨t, ?_⟩, ⟨rfl, rfl⟩, st', fun b hb => (hf b hb).1⟩⟩
    rw [Int.mul_one]
  done := by
    intro X hP hw hK hc i pins s σ H E I hf st hg
    subst hP hw hK
    obtain ⟨f0, f1, f2, f3, f4, f5⟩ := hf it (by simp)
    exact wpAny_pyNext_range_end (I.ok.hd hc) st (by have : n ≤ i := hg; (first | lia | omega)) fun h' eb => ⟨rfl, I.turned (t' := s.toks) (fun b o hb e => eb b o hb e) f0 f1 f3 f4 f5⟩
  self := fun _ _ _ _ _ st h => wpAny_pyIter_rangeiter st h
end L2

namespace L2
open PySem PySem.Spec PyProof.Rows
section
variable {X : Cx} {tg : Expr}
def iList (K : PySem.W.Frag) (tl : TE) : TI := fun σ H R => tl σ H fun x H1 => ∃ a, x = .ref a ∧ (∃ xs, SqL K H1 a xs) ∧ R (Itl K a) H1
theorem pi_list {l : Expr} {tl : TE} (hl : PE X l tl) : PI X tg l (iList X.K tl) := by
  intro pins s σ H R I h
  refine thn (hl pins s σ H _ I h) fun v s1 zz24 => ep_elim zz24 fun x H1 I1 r1 q1 => ?_
  obtain ⟨a, e, ⟨xs, hq⟩, q⟩ := q1
  subst e
  cases r1
  obtain ⟨its, rv, p, hz⟩ := I1.list hq
  refine wpAny_pyIter_list p.isList ?_
  refine ⟨s1.heap.objs.size, [s1.heap.objs.size], _, _, H1, rfl, I1.kept (t' := s1.toks) fun b o e => Heap.get?_push_of_some _ e, turn_list a _, ⟨_, Heap.get?_push_size _ rfl, rfl, rfl⟩, fun b hb => ?_, q⟩
  have e : b = s1.heap.objs.size := by simpa using hb
  subst e
  exact I1.fpOk (Nat.le_refl _) (I1.hok.fresh (Nat.le_refl _))
/-- a range object just made, walked -/
theorem range_it {pins : List (Addr × Obj)} {σ : St} {H : Hp} {s : Shared} {R : It → Hp → Prop} {E : Value → Shared → Prop} {lo hi : Int} {t u v : Tok} {tk : Nat} (I : Inv X pins σ H s) (h1 : -(2 ^ 62) ≤ lo) (h2 : lo < 2 ^ 62) (h3 : -(2 ^ 62) ≤ hi) (h4 : hi < 2 ^ 62)
    (q : R (Itr lo (hi - lo).toNat) H) : wpAny (model X.prog X.w) X.A (pyIter (.ref s.heap.objs.size)) (PIE X pins σ tg R) E { s with heap := s.heap.push { cls := .type "range", data := .fields #[.int lo t, .int hi u, .int 1 v] }, toks := tk } := by
  refine wpAny_pyIter_range (IsRange.new ..) (small_one h1 h2 h3 h4) ?_
  have I1 : Inv X pins σ H { s with heap := s.heap.push { cls := .type "range", data := .fields #[.int lo t, .int hi u, .int 1 v] }, toks := tk } := I.kept fun b o e => Heap.get?_push_of_some _ e
  refine ⟨(s.heap.push { cls := .type "range", data := .fields #[.int lo t, .int hi u, .int 1 v] }).objs.size, [(s.heap.push { cls := .type "range", data := .fields #[.int lo t, .int hi u, .int 1 v] }).objs.size], _, _, H, rfl,
    I1.kept (t' := tk) fun b o e => Heap.get?_push_of_some _ e, turn_range _ lo (hi - lo).toNat, ?_, fun b hb => ?_, q⟩
  · have e1 : lo + ((0 : Nat) : Int) * 1 = lo := by simp
    have e2 : (((hi - lo).toNat : Nat) : Int) - ((0 : Nat) : Int) = Builtin.Range.rangeSize lo hi 1 := by rw [rangeSize_one]; split <;> (first | lia | omega)
    show IsRangeIter _ _ (lo + ((0 : Nat) : Int) * 1) ((((hi - lo).toNat : Nat) : Int) - ((0 : Nat) : Int)) 1
    rw [e1, e2]
    exact Heap.get?_push_size _ rfl
  · have e : b = (s.heap.push { cls := .type "range", data := .fields #[.int lo t, .int hi u, .int 1 v] }).objs.size := by simpa using hb
    subst e
    exact I1.fpOk (Nat.le_refl _) (I1.hok.fresh (Nat.le_refl _))
def iRng1 (ta : TA) : TI := fun σ H R => ta σ H fun vs H1 => ∃ j : Int, vs = [.int j] ∧ -(2 ^ 62) ≤ j ∧ j < 2 ^ 62 ∧ R (Itr 0 j.toNat) H1
theorem pi_range1 {a : Expr} {ta : TA} {p pos : Pos} (hg : Gl X "range") (hm : X.mg "range" = none) (ha : PA X [a] ta) (hs : starEach [a] X.env = [(false, eval a X.env)] := by rfl) : PI X tg (.Call (.Name "range" p) [a] [] pos) (iRng1 ta) := by
  intro pins s σ H R I h
  refine Call_ (ld_blt I hg hm boot_range (PyProof.Rows.callWith_type1 (thn (ha pos pins s σ H _ I h) fun us s1 zz26 => ap_elim zz26 fun vs H1 I1 r1 q1 => ?_) hs rfl))
  obtain ⟨j, e, q1, q2, q⟩ := q1
  subst e
  cases r1 with
  | cons r rr =>
    cases rr
    obtain ⟨t, rfl⟩ := r
    exact call_range_1 (range_it I1 (by (first | lia | omega)) (by (first | lia | omega)) q1 q2 (by simpa using q))
/-! ### for -/
/-- W: the invariant by the turn and a measure; N: what the body is to reach -/
def tFor (wi : TI) (g : TG) (tb : TS) : TS := fun D σ H => wi σ H fun J H1 => ∃ W : Nat → Nat → St → Hp → Prop, (∃ m, W 0 m σ H1) ∧ ∀ i m σ H, W i m σ H →
  (J.stop i H ∧ D.nx σ H) ∨ (J.go i H ∧ ∃ N : St → Hp → Prop, (∀ σ' H', N σ' H' → ∃ m', m' < m ∧ W (i + 1) m' σ' H') ∧ ∀ x H', J.yld i H x H' → g x σ H' fun σ2 H2 => tb { D with nx := N, ct := N, bk := D.nx } σ2 H2)
/-- the records at fp as they stand -/
def pinsAt (fp : List Addr) (h : Heap) : List (Addr × Obj) := fp.filterMap fun b => (h.get? b).map fun o => (b, o)
theorem mem_pinsAt {fp : List Addr} {h : Heap} {b : Addr} {o : Obj} (hb : b ∈ fp) (e : h.get? b = some o) : (b, o) ∈ pinsAt fp h := List.mem_filterMap.mpr ⟨b, hb, by rw [e]; rfl⟩
theorem of_pinsAt {fp : List Addr} {h : Heap} {p : Addr × Obj} (hp : p ∈ pinsAt fp h) : p.1 ∈ fp ∧ h.get? p.1 = some p.2 := by
  obtain ⟨b, hb, e⟩ := List.mem_filterMap.mp hp
  cases q : h.get? b with
  | none => rw [q] at e; cases e
  | some o =>
    rw [q] at e
    have e' : (b, o) = p := Option.some.inj e
    subst e'
    exact ⟨hb, q⟩
theorem Inv.pinned {pins : List (Addr × Obj)} {σ : St} {H : Hp} {s : Shared} {fp : List Addr} (I : Inv X pins σ H s) (hf : ∀ b ∈ fp, FpOk X pins H b) (ho : ∀ b ∈ fp, ∃ o, s.heap.get? b = some o ∧ ∀ v, o.data ≠ .cell v) : Inv X (pins ++ pinsAt fp s.heap) σ H s :=
  I.pins_of fun p hp => (List.mem_append.mp hp).elim (fun z => I.pin p (List.mem_append_right _ z)) fun z => by
    obtain ⟨hb, e⟩ := of_pinsAt z
    obtain ⟨f0, f1, f2, _⟩ := hf p.1 hb
    obtain ⟨o, e', d⟩ := ho p.1 hb
    rw [e] at e'; cases e'
    exact ⟨e, f0, f1, f2, d⟩
theorem Inv.unpinned {pins pl : List (Addr × Obj)} {σ : St} {H : Hp} {s : Shared} (I : Inv X (pins ++ pl) σ H s) : Inv X pins σ H s := I.pins_of fun p hp => I.pin p (List.mem_append_right _ (List.mem_append_left _ hp))
theorem ps_for {iter : Expr} {body : List Stmt} {wi : TI} {g : TG} {tb : TS} {pos : Pos} (hp : PassesOwn (model X.prog X.w) X.A X.env X.xe) (hc : X.calm = true) (hi : PI X tg iter wi) (hg : PG X tg g) (hb : PSs X body tb)
    (hs : ∀ x, foldedSetIterable iter X.env x = pure x := by intro _; rfl) : PS X (.For tg iter body [] pos) (tFor wi g tb) := by
  intro pins s σ H D I h
  refine wpAny_For (thn (hi pins s σ H _ I h) fun v s1 h1 => thn h1 fun itv s2 h2 => ?_) hs
  obtain ⟨it, fp, tn, J, H2, e, I2, T, st2, f2, W, ⟨m0, w0⟩, turn⟩ := h2
  subst e
  -- what stays true of the iterator's objects through the loop
  have stat : ∀ {H' : Hp}, (∀ b ∈ fp, H' b = none) → ∀ b ∈ fp, FpOk X pins H' b := fun hn b hb => ⟨hn b hb, (f2 b hb).2⟩
  refine codeAny_forLoop_any (fun n s' => ∃ i σ' H', Inv X pins σ' H' s' ∧ tn i s'.heap ∧ (∀ b ∈ fp, H' b = none) ∧ W i n σ' H') ?_ m0 ⟨0, σ, H2, I2, st2, fun b hb => (f2 b hb).1, w0⟩
  rintro n s3 ⟨i, σ3, H3, I3, st3, fr3, w3⟩
  rcases turn i n σ3 H3 w3 with ⟨stop, qn⟩ | ⟨go, N, hN, step⟩
  · refine wpAny_passesOwn hp (thn (T.done X rfl rfl rfl hc i pins s3 σ3 H3 X.xe I3 (stat fr3) st3 stop) fun r s4 ⟨hr, I4⟩ => ?_)
    subst hr
    exact wpAny_execs_nil ⟨σ3, H3, I4, qn⟩
  · refine wpAny_passesOwn hp (thn (T.item X rfl rfl rfl hc i pins s3 σ3 H3 X.xe I3 (stat fr3) st3 go) fun r s4 ⟨u, hr, h4⟩ => ?_)
    subst hr
    refine wpAny_passesOwn hp (thn h4 fun _ s5 ⟨x, H5, I5, r5, y5, st5, fr5⟩ => ?_)
    have I5' := I5.pinned (stat fr5) (T.obj _ _ st5)
    refine wpAny_passesOwn hp (thn (hg _ s5 σ3 H5 x u _ I5' r5 (step x H5 y5)) fun _ s6 ⟨σ6, H6, I6, q6⟩ => ?_)
    refine wpAny_passesOwn hp (thn (hb _ s6 σ6 H6 _ I6 q6) fun f s7 q7 => ?_)
    have again : ∀ {σ7 : St} {H7 : Hp}, Inv X (pins ++ pinsAt fp s5.heap) σ7 H7 s7 → N σ7 H7 → ∃ m, m < n ∧ ∃ i σ' H', Inv X pins σ' H' s7 ∧ tn i s7.heap ∧ (∀ b ∈ fp, H' b = none) ∧ W i m σ' H' := fun {σ7 H7} I7 n7 => by
      obtain ⟨m', hm, w7⟩ := hN σ7 H7 n7
      refine ⟨m', hm, i + 1, σ7, H7, I7.unpinned, T.keep _ _ _ st5 fun b hb o e => (I7.pin (b, o) (List.mem_append_right _ (List.mem_append_right _ (mem_pinsAt hb e)))).1, fun b hb => ?_, w7⟩
      obtain ⟨o, e, d⟩ := T.obj _ _ st5 b hb
      exact (I7.pin (b, o) (List.mem_append_right _ (List.mem_append_right _ (mem_pinsAt hb e)))).2.1
    cases f with
    | next => obtain ⟨σ7, H7, I7, n7⟩ := q7; exact again I7 n7
    | cont => obtain ⟨σ7, H7, I7, n7⟩ := q7; exact again I7 n7
    | brk => obtain ⟨σ7, H7, I7, q7⟩ := q7; exact ⟨σ7, H7, I7.unpinned, q7⟩
    | ret v => obtain ⟨x7, σ7, H7, I7, r7, q7⟩ := q7; exact ⟨x7, σ7, H7, I7.unpinned, r7, q7⟩
end

/-! ### the forms one uses -/
/-- over a list that the body leaves as it is -/
theorem for_list {K : PySem.W.Frag} {a : Addr} {xs : List V} {g : TG} {tb : TS} {D : Ends} {σ : St} {H : Hp} (Pv : Nat → St → Hp → Prop) (h0 : Pv 0 σ H) (hl : ∀ i σ H, i ≤ xs.length → Pv i σ H → SqL K H a xs)
    (hs : ∀ i x σ H, xs[i]? = some x → Pv i σ H → g x σ H fun σ2 H2 => tb { D with nx := Pv (i + 1), ct := Pv (i + 1), bk := D.nx } σ2 H2) (hd : ∀ σ H, Pv xs.length σ H → D.nx σ H) :
    ∃ W : Nat → Nat → St → Hp → Prop, (∃ m, W 0 m σ H) ∧ ∀ i m σ H, W i m σ H →
      ((Itl K a).stop i H ∧ D.nx σ H) ∨ ((Itl K a).go i H ∧ ∃ N : St → Hp → Prop, (∀ σ' H', N σ' H' → ∃ m', m' < m ∧ W (i + 1) m' σ' H') ∧ ∀ x H', (Itl K a).yld i H x H' → g x σ H' fun σ2 H2 => tb { D with nx := N, ct := N, bk := D.nx } σ2 H2) := by
  refine ⟨fun i m σ H => m = xs.length - i ∧ i ≤ xs.length ∧ Pv i σ H, ⟨xs.length, by simp, Nat.zero_le _, h0⟩, ?_⟩
  rintro i m σ H ⟨rfl, hi, p⟩
  have q := hl i σ H hi p
  by_cases hlt : i < xs.length
  · refine .inr ⟨⟨xs, xs[i], q, by simp [hlt]⟩, Pv (i + 1), fun σ' H' p' => ⟨xs.length - (i + 1), by (first | lia | omega), rfl, hlt, p'⟩, fun x H' y => ?_⟩
    obtain ⟨e, y⟩ := y
    subst e
    exact hs i x σ _ (y xs q) p
  · have e : i = xs.length := by (first | lia | omega)
    subst e
    exact .inl ⟨⟨xs, q, Nat.le_refl _⟩, hd σ H p⟩
theorem for_range {lo : Int} {n : Nat} {g : TG} {tb : TS} {D : Ends} {σ : St} {H : Hp} (Pv : Nat → St → Hp → Prop) (h0 : Pv 0 σ H)
    (hs : ∀ i σ H, i < n → Pv i σ H → g (.int (lo + i)) σ H fun σ2 H2 => tb { D with nx := Pv (i + 1), ct := Pv (i + 1), bk := D.nx } σ2 H2) (hd : ∀ σ H, Pv n σ H → D.nx σ H) :
    ∃ W : Nat → Nat → St → Hp → Prop, (∃ m, W 0 m σ H) ∧ ∀ i m σ H, W i m σ H →
      ((Itr lo n).stop i H ∧ D.nx σ H) ∨ ((Itr lo n).go i H ∧ ∃ N : St → Hp → Prop, (∀ σ' H', N σ' H' → ∃ m', m' < m ∧ W (i + 1) m' σ' H') ∧ ∀ x H', (Itr lo n).yld i H x H' → g x σ H' fun σ2 H2 => tb { D with nx := N, ct := N, bk := D.nx } σ2 H2) := by
  refine ⟨fun i m σ H => m = n - i ∧ i ≤ n ∧ Pv i σ H, ⟨n, by simp, Nat.zero_le _, h0⟩, ?_⟩
  rintro i m σ H ⟨rfl, hi, p⟩
  by_cases hlt : i < n
  · refine .inr ⟨hlt, Pv (i + 1), fun σ' H' p' => ⟨n - (i + 1), by (first | lia | omega), rfl, hlt, p'⟩, fun x H' y => ?_⟩
    obtain ⟨e, y⟩ := y
    subst e y
    exact hs i σ _ hlt p
  · have e : i = n := by (first | lia | omega)
    subst e
    exact .inl ⟨Nat.le_refl _, hd σ H p⟩
/-- while, by a word and a measure of the state -/
theorem while_by {c : TT} {tb : TS} {D : Ends} {σ : St} {H : Hp} (Pv : St → Hp → Prop) (μ : St → Hp → Nat) (h0 : Pv σ H)
    (hs : ∀ σ H, Pv σ H → c σ H fun b H1 => if b = true then tb { D with nx := fun σ' H' => Pv σ' H' ∧ μ σ' H' < μ σ H, ct := fun σ' H' => Pv σ' H' ∧ μ σ' H' < μ σ H, bk := D.nx } σ H1 else D.nx σ H1)
    (mono : ∀ σ H Q Q', (∀ b H1, Q b H1 → Q' b H1) → c σ H Q → c σ H Q') : tWhile c tb D σ H := by
  refine ⟨fun m σ H => m = μ σ H ∧ Pv σ H, ⟨_, rfl, h0⟩, ?_⟩
  rintro m σ H ⟨rfl, p⟩
  refine mono σ H _ _ (fun b H1 q => ?_) (hs σ H p)
  cases b with
  | true => exact ⟨_, fun σ' H' ⟨p', l⟩ => ⟨_, l, rfl, p'⟩, q⟩
  | false => exact q
end L2

namespace L2
open PySem PySem.Spec PyProof.Rows

abbrev R2 := V → V → Hp → VK → Prop
/-- a two-place operation on values: f is binaryOp op, inplaceOp op or compareOp op -/
def OpR (X : Cx) (f : Value → Value → Sem Value) (r : R2) : Prop :=
  ∀ (pins : List (Addr × Obj)) (s : Shared) (σ : St) (H : Hp) (x y : V) (v u : Value) (Q : VK), Inv X pins σ H s → RelV x v → RelV y u → r x y H Q →
    wpAny (model X.prog X.w) X.A (f v u) (EP X pins σ Q) X.xe s
/-- a one-place operation -/
def UnR (X : Cx) (f : Value → Sem Value) (r : V → Hp → VK → Prop) : Prop :=
  ∀ (pins : List (Addr × Obj)) (s : Shared) (σ : St) (H : Hp) (x : V) (v : Value) (Q : VK), Inv X pins σ H s → RelV x v → r x H Q →
    wpAny (model X.prog X.w) X.A (f v) (EP X pins σ Q) X.xe s
/-- a call of a value that is known (a builtin, a type) with values -/
def CallR (X : Cx) (f : Value) (r : List V → Hp → VK → Prop) : Prop :=
  ∀ (pins : List (Addr × Obj)) (s : Shared) (σ : St) (H : Hp) (xs : List V) (us : List Value) (Q : VK), Inv X pins σ H s → Vals xs us → r xs H Q →
    wpAny (model X.prog X.w) X.A (call f us) (EP X pins σ Q) X.xe s
def tOp (r : R2) (ta tb : TE) : TE := fun σ H Q => ta σ H fun x H1 => tb σ H1 fun y H2 => r x y H2 Q
def tUn (r : V → Hp → VK → Prop) (ta : TE) : TE := fun σ H Q => ta σ H fun x H1 => r x H1 Q
/-- ints in, under C, and a value out -/
inductive rII (C : Int → Int → Prop) (g : Int → Int → V) (x y : V) (H : Hp) (Q : VK) : Prop
  | mk (i j : Int) : (x = .int i) → (y = .int j) → (C i j) → (Q (g i j) H) → rII C g x y H Q
def rI (C : Int → Int → Prop) (g : Int → Int → V) : R2 := fun x y H Q => rII C g x y H Q
inductive rI0I (g : Int → Int → V) (x y : V) (H : Hp) (Q : VK) : Prop
  | mk (i j : Int) : (x = .int i) → (y = .int j) → (Q (g i j) H) → rI0I g x y H Q
def rI0 (g : Int → Int → V) : R2 := fun x y H Q => rI0I g x y H Q
def rU (g : Int → V) : V → Hp → VK → Prop := fun x H Q => ∃ i, x = .int i ∧ Q (g i) H

section
variable {X : Cx} {a b c : Expr} {ta tb tc : TE} {pos : Pos}

theorem binT (ha : PE X a ta) (hb : PE X b tb) {pins : List (Addr × Obj)} {s : Shared} {σ : St} {H : Hp} {R : V → V → Hp → Prop} (I : Inv X pins σ H s)
    (h : ta σ H fun x H1 => tb σ H1 fun y H2 => R x y H2) {Q : Value → Shared → Prop} {f : Value → Value → Sem Value}
    (hf : ∀ v u s2 x y H2, Inv X pins σ H2 s2 → RelV x v → RelV y u → R x y H2 → wpAny (model X.prog X.w) X.A (f v u) Q X.xe s2) :
    wpAny (model X.prog X.w) X.A (eval a X.env) (fun v s₁ => wpAny (model X.prog X.w) X.A (eval b X.env) (fun u s₂ => wpAny (model X.prog X.w) X.A (f v u) Q X.xe s₂) X.xe s₁) X.xe s := by
  refine thn (ha pins s σ H _ I h) fun v s1 zz28 => ep_elim zz28 fun x H1 I1 r1 q1 => ?_
  refine thn (hb pins s1 σ H1 _ I1 q1) fun u s2 zz29 => ep_elim zz29 fun y H2 I2 r2 q2 => ?_
  exact hf v u s2 x y H2 I2 r1 r2 q2

theorem pe_op {op : Operator} {r : R2} (ho : OpR X (binaryOp op) r) (ha : PE X a ta) (hb : PE X b tb) : PE X (.BinOp a op b pos) (tOp r ta tb) := by
  intro pins s σ H Q I h
  exact wpAny_BinOp (binT ha hb I h fun v u s2 x y H2 I2 rx ry q => ho pins s2 σ H2 x y v u Q I2 rx ry q)
theorem pe_un {op : UnaryOp} {r : V → Hp → VK → Prop} (ho : UnR X (unaryOp op) r) (ha : PE X a ta) : PE X (.UnaryOp op a pos) (tUn r ta) := by
  intro pins s σ H Q I h
  exact UnaryOp_ (thn (ha pins s σ H _ I h) fun v s1 zz30 => ep_elim zz30 fun x H1 I1 r1 q1 => ho pins s1 σ H1 x v Q I1 r1 q1)
/-! ### ints -/
theorem opI {f : Value → Value → Sem Value} {C : Int → Int → Prop} {g : Int → Int → Int}
    (rule : ∀ (i j : Int) (t u : Tok) (s : Shared) (Q : Value → Shared → Prop) (E : Value → Shared → Prop), C i j → Q (.int (g i j) s.toks) { s with toks := s.toks + 1 } → wpAny (model X.prog X.w) X.A (f (.int i t) (.int j u)) Q E s) :
    OpR X f (rI C fun i j => .int (g i j)) := by
  intro pins s σ H x y v u Q I rx ry h
  obtain ⟨i, j, rfl, rfl, hc, q⟩ := h
  obtain ⟨t, rfl⟩ := rx
  obtain ⟨t', rfl⟩ := ry
  exact rule i j t t' s _ _ hc ⟨.int (g i j), H, I.tok _, ⟨_, rfl⟩, q⟩
theorem opI0 {f : Value → Value → Sem Value} {g : Int → Int → Int}
    (rule : ∀ (i j : Int) (t u : Tok) (s : Shared) (Q : Value → Shared → Prop) (E : Value → Shared → Prop), Q (.int (g i j) s.toks) { s with toks := s.toks + 1 } → wpAny (model X.prog X.w) X.A (f (.int i t) (.int j u)) Q E s) :
    OpR X f (rI0 fun i j => .int (g i j)) := by
  intro pins s σ H x y v u Q I rx ry h
  obtain ⟨i, j, rfl, rfl, q⟩ := h
  obtain ⟨t, rfl⟩ := rx
  obtain ⟨t', rfl⟩ := ry
  exact rule i j t t' s _ _ ⟨.int (g i j), H, I.tok _, ⟨_, rfl⟩, q⟩
theorem opB0 {f : Value → Value → Sem Value} {g : Int → Int → Bool}
    (rule : ∀ (i j : Int) (t u : Tok) (s : Shared) (Q : Value → Shared → Prop) (E : Value → Shared → Prop), Q (.bool (g i j)) s → wpAny (model X.prog X.w) X.A (f (.int i t) (.int j u)) Q E s) :
    OpR X f (rI0 fun i j => .bl (g i j)) := by
  intro pins s σ H x y v u Q I rx ry h
  obtain ⟨i, j, rfl, rfl, q⟩ := h
  obtain ⟨t, rfl⟩ := rx
  obtain ⟨t', rfl⟩ := ry
  exact rule i j t t' s _ _ ⟨.bl (g i j), H, I, rfl, q⟩

def CDiv (i j : Int) : Prop := 0 < j ∧ j < 1073741824
def CMul (i j : Int) : Prop := (-(2 ^ 64) < i ∧ i < 2 ^ 64) ∨ (-(2 ^ 64) < j ∧ j < 2 ^ 64)
theorem CMul.ok {i j : Int} (h : CMul i j) : IntMulOk i j := by
  rcases h with ⟨h1, h2⟩ | ⟨h1, h2⟩
  · exact .of_left (intBits_le_64 h1 h2)
  · exact .of_right (intBits_le_64 h1 h2)
theorem op_add : OpR X (binaryOp .Add) (rI0 fun i j => .int (i + j)) := opI0 fun _ _ _ _ _ _ _ q => add_int q
theorem op_sub : OpR X (binaryOp .Sub) (rI0 fun i j => .int (i - j)) := opI0 fun _ _ _ _ _ _ _ q => sub_int q
theorem op_mul : OpR X (binaryOp .Mult) (rI CMul fun i j => .int (i * j)) := opI fun _ _ _ _ _ _ _ hc q => mul_int q hc.ok
/-- // by a positive divisor -/
theorem op_fdiv : OpR X (binaryOp .FloorDiv) (rI CDiv fun i j => .int (i / j)) := opI fun i j _ _ _ _ _ hc q => by
  have h1 : (0 : Int) < j := hc.1
  have h2 : j < 1073741824 := hc.2
  exact floordiv_int (by (first | lia | omega)) (by rw [Int.fdiv_eq_ediv_of_nonneg i (by (first | lia | omega))]; exact q) (.inl (PyProof.noPylong_small (by (first | lia | omega))))
/-- % by a positive divisor of any size -/
theorem op_mod : OpR X (binaryOp .Mod) (rI (fun _ j => 0 < j) fun i j => .int (i % j)) := opI fun i j _ _ _ _ _ hc q => by
  have h1 : (0 : Int) < j := hc
  exact mod_int' (by (first | lia | omega)) (by rw [Int.fmod_eq_emod_of_nonneg i (by (first | lia | omega))]; exact q)
theorem unI {f : Value → Sem Value} {g : Int → Int}
    (rule : ∀ (i : Int) (t : Tok) (s : Shared) (Q : Value → Shared → Prop) (E : Value → Shared → Prop), Q (.int (g i) s.toks) { s with toks := s.toks + 1 } → wpAny (model X.prog X.w) X.A (f (.int i t)) Q E s) :
    UnR X f (rU fun i => .int (g i)) := by
  intro pins s σ H x v Q I rx h
  obtain ⟨i, rfl, q⟩ := h
  obtain ⟨t, rfl⟩ := rx
  exact rule i t s _ _ ⟨.int (g i), H, I.tok _, ⟨_, rfl⟩, q⟩
theorem un_neg : UnR X (unaryOp .USub) (rU fun i => .int (-i)) := unI fun _ _ _ _ _ q => neg_int q
/-! ### bools among ints: n += (a < b) -/
end

/-! ### comparisons -/
/-- the scalars that == tells apart as data does -/
def scal : V → V → Bool
  | .non, .non => true | .non, .int _ => true | .int _, .non => true | .non, .bl _ => true | .bl _, .non => true | .non, .str _ => true | .str _, .non => true
  | .int _, .int _ => true | .bl _, .bl _ => true | .str _, .str _ => true | .byt _, .byt _ => true
  | .int _, .str _ => true | .str _, .int _ => true | .bl _, .str _ => true | .str _, .bl _ => true
  | _, _ => false
def rEq : R2 := fun x y H Q => scal x y = true ∧ Q (.bl (decide (x = y))) H
def rNe : R2 := fun x y H Q => scal x y = true ∧ Q (.bl (!decide (x = y))) H

theorem dec_int {i j : Int} : decide (V.int i = V.int j) = (i == j) := by
  rw [Bool.eq_iff_iff]
  simp
theorem dec_bl {i j : Bool} : decide (V.bl i = V.bl j) = (i == j) := by
  rw [Bool.eq_iff_iff]
  simp
theorem dec_str {i j : Str} : decide (V.str i = V.str j) = (i == j) := by
  rw [Bool.eq_iff_iff]
  simp
theorem dec_byt {i j : Array UInt8} : decide (V.byt i = V.byt j) = (i.toList == j.toList) := by
  rw [Bool.eq_iff_iff]
  cases i
  cases j
  simp

section
variable {X : Cx} {a b c : Expr} {ta tb tc : TE} {pos : Pos}
theorem fin_bl {pins : List (Addr × Obj)} {σ : St} {H : Hp} {s : Shared} {Q : VK} {k k' : Bool} (I : Inv X pins σ H s) (q : Q (.bl k) H) (e : k = k') : EP X pins σ Q (.bool k') s := by
  subst e
  exact ⟨.bl k, H, I, rfl, q⟩
theorem op_eq : OpR X (compareOp .Eq) rEq := by
  intro pins s σ H x y v u Q I rx ry h
  obtain ⟨hs, q⟩ := h
  cases x with
  | non =>
    cases rx
    cases y with
    | non => cases ry; exact PySem.EqNone.eq_none_none (fin_bl I q (by simp))
    | bl j => cases ry; exact PySem.EqNone.eq_none_bool (fin_bl I q (by simp))
    | int j => obtain ⟨t', rfl⟩ := ry; exact PySem.EqNone.eq_none_int (fin_bl I q (by simp))
    | str j => obtain ⟨t', rfl⟩ := ry; exact PySem.EqNone.eq_none_str (fin_bl I q (by simp))
    | _ => exact absurd (show false = true from hs) Bool.false_ne_true
  | bl i =>
    cases rx
    cases y with
    | non => cases ry; exact PySem.EqNone.eq_bool_none (fin_bl I q (by simp))
    | bl j => cases ry; exact eq_bool (fin_bl I q dec_bl)
    | str j => obtain ⟨t', rfl⟩ := ry; exact PySem.EqMixed.eq_bool_str (fin_bl I q (by simp))
    | _ => exact absurd (show false = true from hs) Bool.false_ne_true
  | int i =>
    obtain ⟨t, rfl⟩ := rx
    cases y with
    | non => cases ry; exact PySem.EqNone.eq_int_none (fin_bl I q (by simp))
    | int j => obtain ⟨t', rfl⟩ := ry; exact eq_int (fin_bl I q dec_int)
    | str j => obtain ⟨t', rfl⟩ := ry; exact PySem.EqMixed.eq_int_str (fin_bl I q (by simp))
    | _ => exact absurd (show false = true from hs) Bool.false_ne_true
  | str i =>
    obtain ⟨t, rfl⟩ := rx
    cases y with
    | non => cases ry; exact PySem.EqNone.eq_str_none (fin_bl I q (by simp))
    | bl j => cases ry; exact PySem.EqMixed.eq_str_bool (fin_bl I q (by simp))
    | int j => obtain ⟨t', rfl⟩ := ry; exact PySem.EqMixed.eq_str_int (fin_bl I q (by simp))
    | str j => obtain ⟨t', rfl⟩ := ry; exact eq_str (fin_bl I q dec_str)
    | _ => exact absurd (show false = true from hs) Bool.false_ne_true
  | byt i =>
    obtain ⟨t, rfl⟩ := rx
    cases y with
    | byt j => obtain ⟨t', rfl⟩ := ry; exact PySem.W.eq_bytes (fin_bl I q dec_byt)
    | _ => exact absurd (show false = true from hs) Bool.false_ne_true
  | _ => cases y <;> exact absurd (show false = true from hs) Bool.false_ne_true
theorem op_ne : OpR X (compareOp .NotEq) rNe := by
  intro pins s σ H x y v u Q I rx ry h
  obtain ⟨hs, q⟩ := h
  cases x with
  | non =>
    cases rx
    cases y with
    | non => cases ry; exact PySem.EqNone.ne_none_none (fin_bl I q (by simp))
    | bl j => cases ry; exact PySem.EqNone.ne_none_bool (fin_bl I q (by simp))
    | int j => obtain ⟨t', rfl⟩ := ry; exact PySem.EqNone.ne_none_int (fin_bl I q (by simp))
    | str j => obtain ⟨t', rfl⟩ := ry; exact PySem.EqNone.ne_none_str (fin_bl I q (by simp))
    | _ => exact absurd (show false = true from hs) Bool.false_ne_true
  | bl i =>
    cases rx
    cases y with
    | non => cases ry; exact PySem.EqNone.ne_bool_none (fin_bl I q (by simp))
    | bl j => cases ry; exact ne_bool (fin_bl I q (congrArg not dec_bl))
    | str j => obtain ⟨t', rfl⟩ := ry; exact PySem.EqMixed.ne_bool_str (fin_bl I q (by simp))
    | _ => exact absurd (show false = true from hs) Bool.false_ne_true
  | int i =>
    obtain ⟨t, rfl⟩ := rx
    cases y with
    | non => cases ry; exact PySem.EqNone.ne_int_none (fin_bl I q (by simp))
    | int j => obtain ⟨t', rfl⟩ := ry; exact ne_int (fin_bl I q (congrArg not dec_int))
    | str j => obtain ⟨t', rfl⟩ := ry; exact PySem.EqMixed.ne_int_str (fin_bl I q (by simp))
    | _ => exact absurd (show false = true from hs) Bool.false_ne_true
  | str i =>
    obtain ⟨t, rfl⟩ := rx
    cases y with
    | non => cases ry; exact PySem.EqNone.ne_str_none (fin_bl I q (by simp))
    | bl j => cases ry; exact PySem.EqMixed.ne_str_bool (fin_bl I q (by simp))
    | int j => obtain ⟨t', rfl⟩ := ry; exact PySem.EqMixed.ne_str_int (fin_bl I q (by simp))
    | str j => obtain ⟨t', rfl⟩ := ry; exact ne_str (fin_bl I q (congrArg not dec_str))
    | _ => exact absurd (show false = true from hs) Bool.false_ne_true
  | byt i =>
    obtain ⟨t, rfl⟩ := rx
    cases y with
    | byt j => obtain ⟨t', rfl⟩ := ry; exact PySem.W.ne_bytes (fin_bl I q (congrArg not dec_byt))
    | _ => exact absurd (show false = true from hs) Bool.false_ne_true
  | _ => cases y <;> exact absurd (show false = true from hs) Bool.false_ne_true

theorem op_lt : OpR X (compareOp .Lt) (rI0 fun i j => .bl (decide (i < j))) := opB0 fun _ _ _ _ _ _ _ q => lt_int q
theorem op_le : OpR X (compareOp .LtE) (rI0 fun i j => .bl (decide (i ≤ j))) := opB0 fun _ _ _ _ _ _ _ q => le_int q
theorem op_gt : OpR X (compareOp .Gt) (rI0 fun i j => .bl (decide (j < i))) := opB0 fun _ _ _ _ _ _ _ q => gt_int q
theorem nomark (b : Expr) {op : CmpOp} (h : op ≠ .In := by decide) (h2 : op ≠ .NotIn := by decide) : behindInMarks op b = false := by
  have e1 : (op == CmpOp.In) = false := by cases op <;> first | rfl | exact absurd rfl h
  have e2 : (op == CmpOp.NotIn) = false := by cases op <;> first | rfl | exact absurd rfl h2
  cases b <;> simp [behindInMarks, e1, e2]
/-- a comparison as a value; hm: nomark b, or (for in, not in) by with_unfolding_all rfl -/
theorem pe_cmpR {op : CmpOp} {r : R2} (ho : OpR X (compareOp op) r) (ha : PE X a ta) (hb : PE X b tb) (hm : behindInMarks op b = false) : PE X (.Compare a [op] [b] pos) (tOp r ta tb) := by
  intro pins s σ H Q I h
  exact wpAny_Compare1 (binT ha hb I h fun v u s2 x y H2 I2 rx ry q => ho pins s2 σ H2 x y v u Q I2 rx ry q) hm
/-- a reading of a value as a test -/
inductive blI (x : V) (H : Hp) (Q : Bool → Hp → Prop) : Prop
  | mk (k : Bool) : (x = .bl k) → (Q k H) → blI x H Q
def tTest (t : TE) : TT := fun σ H Q => t σ H fun x H' => blI x H' Q
theorem pt_cmpR {op : CmpOp} {r : R2} (ho : OpR X (compareOp op) r) (ha : PE X a ta) (hb : PE X b tb) (hm : behindInMarks op b = false) : PT X (.Compare a [op] [b] pos) (tTest (tOp r ta tb)) := by
  intro pins s σ H Q I h
  refine wpAny_isTrue_Compare1 (thn (ha pins s σ H _ I h) fun v s1 zz31 => ep_elim zz31 fun x H1 I1 r1 q1 => thn (hb pins s1 σ H1 _ I1 q1) fun u s2 zz32 => ep_elim zz32 fun y H2 I2 r2 q2 =>
    thn (ho pins s2 σ H2 x y v u _ I2 r1 r2 q2) fun c s3 ⟨z, H3, I3, r3, k, e, q3⟩ => ?_) hm
  subst e
  cases r3
  exact wpAny_truthy_bool ⟨H3, I3, q3⟩
/-- a op1 b op2 c -/
def tChain (r r' : R2) (ta tb tc : TE) : TE := fun σ H Q => ta σ H fun x H1 => tb σ H1 fun y H2 => r x y H2 fun z H3 => ∃ k, z = .bl k ∧
  (if k = true then tc σ H3 fun w' H4 => r' y w' H4 Q else Q (.bl false) H3)
theorem pe_chain {op op' : CmpOp} {r r' : R2} (ho : OpR X (compareOp op) r) (ho' : OpR X (compareOp op') r') (ha : PE X a ta) (hb : PE X b tb) (hc : PE X c tc)
    (hm : lastMarks [op, op'] [b, c] = false := by with_unfolding_all rfl) : PE X (.Compare a [op, op'] [b, c] pos) (tChain r r' ta tb tc) := by
  intro pins s σ H Q I h
  refine Compare_chain (thn (ha pins s σ H _ I h) fun v s1 zz33 => ep_elim zz33 fun x H1 I1 r1 q1 => chain_link (thn (hb pins s1 σ H1 _ I1 q1) fun u s2 zz34 => ep_elim zz34 fun y H2 I2 r2 q2 =>
    thn (ho pins s2 σ H2 x y v u _ I2 r1 r2 q2) fun d s3 ⟨z, H3, I3, r3, k, e, q3⟩ => ?_)) hm
  subst e
  cases r3
  refine wpAny_truthy_bool ?_
  cases k with
  | false => exact ite_ff ⟨.bl false, H3, I3, rfl, q3⟩
  | true => exact ite_tt (chain_last (thn (hc pins s3 σ H3 _ I3 q3) fun w' s4 ⟨z', H4, I4, r4, q4⟩ => ho' pins s4 σ H4 y z' u w' Q I4 r2 r4 q4))
theorem pt_chain {op op' : CmpOp} {r r' : R2} (ho : OpR X (compareOp op) r) (ho' : OpR X (compareOp op') r') (ha : PE X a ta) (hb : PE X b tb) (hc : PE X c tc)
    (hm : lastMarks [op, op'] [b, c] = false := by with_unfolding_all rfl) : PT X (.Compare a [op, op'] [b, c] pos) (tTest (tChain r r' ta tb tc)) := by
  intro pins s σ H Q I h
  refine isTrue_chain (thn (ha pins s σ H _ I h) fun v s1 zz35 => ep_elim zz35 fun x H1 I1 r1 q1 => test_link (thn (hb pins s1 σ H1 _ I1 q1) fun u s2 zz36 => ep_elim zz36 fun y H2 I2 r2 q2 =>
    thn (ho pins s2 σ H2 x y v u _ I2 r1 r2 q2) fun d s3 ⟨z, H3, I3, r3, k, e, q3⟩ => ?_)) hm
  subst e
  cases r3
  refine wpAny_truthy_bool ?_
  cases k with
  | false =>
    obtain ⟨k', e', q'⟩ := q3
    cases e'
    exact ite_ff ⟨H3, I3, q'⟩
  | true =>
    refine ite_tt (test_last (thn (hc pins s3 σ H3 _ I3 q3) fun w' s4 ⟨z', H4, I4, r4, q4⟩ => thn (ho' pins s4 σ H4 y z' u w' _ I4 r2 r4 q4) fun d' s5 ⟨z2, H5, I5, r5, k2, e2, q5⟩ => ?_))
    subst e2
    cases r5
    exact wpAny_truthy_bool ⟨H5, I5, q5⟩

/-! ### truth -/
theorem line63 : (sizeLine : Nat) < 2 ^ 63 := by rw [sizeLine_eq]; decide
/-! ### strs and bytes -/
/-! ### scalar builtins, by CallR -/
theorem vals1 {x : V} {us : List Value} (r : Vals [x] us) : ∃ u, us = [u] ∧ RelV x u := by
  cases r with
  | cons r1 r2 => cases r2; exact ⟨_, rfl, r1⟩
end
end L2

namespace L2
open PySem PySem.Spec PyProof.Rows

/-! ### an instance, its attributes a map -/
structure ObjM (h : Heap) (x dx C : Addr) (mA : Str → Option Value) : Prop where
  obj : h.get? x = some (PySem.W.instObj C dx)
  ns : h.Ns1 dx mA
  ne : dx ≠ x

theorem lookIn_ns {h : Heap} {dx : Addr} {mA : Str → Option Value} (n : h.Ns1 dx mA) : ∃ od, h.get? dx = some od ∧ ∀ name, PySem.W.lookIn name od = some (mA name) := by
  obtain ⟨o, es, ep, ho, hd, hk, _, hm⟩ := n
  refine ⟨o, ho, fun name => ?_⟩
  have e := hm name
  unfold nsFind findBy at e
  rw [← Array.find?_toList] at e
  unfold PySem.W.lookIn
  rw [hd]
  dsimp only
  split
  · rename_i y q
    rw [q] at e
    exact congrArg some e
  · rename_i q
    rw [q] at e
    have a : es.toList.any (·.refKey) = false := by
      rw [List.any_eq_false]
      intro y hy
      obtain ⟨z, t, hkey⟩ := hk y (Array.mem_toList_iff.mp hy)
      simp [DictEntry.refKey, hkey]
    have a' : ¬ es.toList.any (·.refKey) = true := by rw [a]; exact Bool.false_ne_true
    rw [if_neg a']
    exact congrArg some e

theorem ObjM.look {h : Heap} {x dx C : Addr} {mA : Str → Option Value} (I : ObjM h x dx C mA) : ∃ od, PySem.W.InstAt h x (PySem.W.instObj C dx) C (some od) ∧ ∀ name, PySem.W.lookIn name od = some (mA name) :=
  let ⟨od, ho, hl⟩ := lookIn_ns I.ns
  ⟨od, ⟨I.obj, rfl, rfl, ho⟩, hl⟩

section
variable {prog : Program} {w : World} {A : Around} {E : Value → Shared → Prop} {s : Shared} {K : PySem.W.Frag} {x dx C f : Addr} {mA : Str → Option Value} {name : Str} {v : Value}

theorem get_map {expr : Bool} {Q : Value → Shared → Prop} (X : K.In s.heap) (I : ObjM s.heap x dx C mA) (hg : PySem.W.plainGet K C name = true) (hh : PySem.W.hasDictIn K C = true)
    (ha : PySem.W.findIn K (.ref C) name = some none) (hv : mA name = some v) (hv' : PySem.W.handedIn v = true) (h : Q v { s with toks := s.toks + 1 }) :
    wpAny (model prog w) A (getAttr (.ref x) name expr) Q E s := by
  obtain ⟨od, J, hl⟩ := I.look
  exact PySem.W.get_value X J (PySem.W.plainGet_of hg).1 (PySem.W.findObj_own hh ha rfl (by rw [hl, hv])) hv' h

theorem set_map {ns : List Str} {Q : Unit → Shared → Prop} (X : K.In s.heap) (I : ObjM s.heap x dx C mA)
    (hs : PySem.W.findIn K (.ref C) "__setattr__" = some (some (.builtin "object.__setattr__"))) (hp : PySem.W.plainOver K C = true) (ht : PySem.W.takerIn K C name = some none) (hh : PySem.W.hasDictIn K C = true)
    (hw : PySem.Within mA ns) (hsz : ns.length ≤ sizeLine)
    (h : ∀ h', ObjM h' x dx C (fun y => if y = name then some v else mA y) → Heap.SameBut dx s.heap h' → Q () { s with heap := h', toks := s.toks + 2 }) :
    wpAny (model prog w) A (setAttr (.ref x) name v) Q E s := by
  obtain ⟨od, J, hl⟩ := I.look
  refine PySem.W.set_plain X J hs (PySem.W.osa_open (s := { s with toks := s.toks + 1 }) (r := none) X J hp ht fun b => ?_)
  obtain ⟨cd, hc, hd'⟩ := PySem.W.any_some hh
  have hx : s.heap.get? x = some ⟨.ref C, some dx, .plain, #[]⟩ := I.obj
  refine wpAny_bind (wpAny_pure (wpAny_bind (wpAny_bind (wpAny_loadPart hx (wpAny_bind (PySem.W.Looks.here (s := { s with toks := s.toks + 1 }) (PySem.W.looks_clsIn X hc) ?_))))))
  rw [hd']
  refine wpAny_pure (a := some dx) (wpAny_bind (wpAny_pure (wpAny_bind ?_)))
  refine wpAny_nsSet1 (s := { s with toks := s.toks + 1 }) I.ns fun h' hn2 hs2 => ?_
  obtain ⟨oD, esD, epD, hoD, hdD, hcD⟩ := hn2.count (PySem.Within.cons name v hw)
  refine wpAny_bind (wpAny_lookBehind hoD (by rw [hdD]; exact pastItsLine_dict (Nat.le_trans hcD (by rw [List.length_cons]; (first | lia | omega)))) ?_)
  exact wpAny_pure (h _ ⟨(hs2.2 _ (Ne.symm I.ne)).trans I.obj, hn2, I.ne⟩ hs2)

/-- C(..): the dict at the heap's end, the instance behind it; then its __init__ -/
theorem make_map {R : Result → Shared → Prop} {vs : List Value} {kw : List (Str × Value)} (X : K.In s.heap) (hm : PySem.W.makesIn K C = true)
    (hi : PySem.W.findIn K (.ref C) "__init__" = some (some (.ref f))) (hf : PySem.W.typeIn K (.ref f) = some (.type "function"))
    (h : codeAny (model prog w) (A.under (.builtin "type.__call__" ⟨.ref C :: vs, kw⟩)) (.call (.ref f) ⟨.ref (s.heap.objs.size + 1) :: vs, kw⟩) (PySem.W.InitBack (s.heap.objs.size + 1) R)
      { s with heap := (s.heap.push PySem.W.emptyDict).push (PySem.W.instObj C s.heap.objs.size) }) :
    codeAny (model prog w) A (.call (.ref C) ⟨vs, kw⟩) R s := by
  obtain ⟨hh, g, d, t, os⟩ := s
  exact PySem.W.make_core (PySem.W.makes_of X hm) (PySem.W.looks_findIn X hi) (fun self => PySem.W.bind_fn X self hf) (.inl rfl) h
end

/-! ### the attributes as a list of pairs -/
def putF (f : Str) (v : V) : List (Str × V) → List (Str × V)
  | [] => [(f, v)]
  | (g, x) :: r => if g = f then (g, v) :: r else (g, x) :: putF f v r
theorem lookup_putF (f g : Str) (v : V) : ∀ fs : List (Str × V), (putF f v fs).lookup g = if g = f then some v else fs.lookup g
  | [] => by
    show List.lookup g [(f, v)] = _
    by_cases h : g = f
    · have hb : (g == f) = true := beq_iff_eq.mpr h
      simp only [List.lookup, hb, if_pos h]
    · have hb : (g == f) = false := beq_eq_false_iff_ne.mpr h
      simp only [List.lookup, hb, if_neg h]
  | (k, x) :: r => by
    have ih := lookup_putF f g v r
    rw [show putF f v ((k, x) :: r) = (if k = f then (k, v) :: r else (k, x) :: putF f v r) from rfl]
    by_cases hk : k = f
    · rw [if_pos hk]
      by_cases h : g = k
      · have hb : (g == k) = true := beq_iff_eq.mpr h
        simp only [List.lookup, hb, if_pos (h.trans hk)]
      · have hb : (g == k) = false := beq_eq_false_iff_ne.mpr h
        simp only [List.lookup, hb, if_neg (fun e : g = f => h (e.trans hk.symm))]
    · rw [if_neg hk]
      by_cases h : g = k
      · have hb : (g == k) = true := beq_iff_eq.mpr h
        simp only [List.lookup, hb, if_neg (fun e : g = f => hk (h.symm.trans e))]
      · have hb : (g == k) = false := beq_eq_false_iff_ne.mpr h
        simp only [List.lookup, hb]
        exact ih
theorem keys_putF (f : Str) (v : V) : ∀ fs : List (Str × V), f ∈ (putF f v fs).map (·.1) ∧ ∀ g, g ∈ fs.map (·.1) → g ∈ (putF f v fs).map (·.1)
  | [] => ⟨by simp [putF], fun g h => by simp at h⟩
  | (k, x) :: r => by
    obtain ⟨i1, i2⟩ := keys_putF f v r
    rw [show putF f v ((k, x) :: r) = (if k = f then (k, v) :: r else (k, x) :: putF f v r) from rfl]
    by_cases hk : k = f
    · rw [if_pos hk]
      subst hk
      exact ⟨by simp, fun g h => by simpa using h⟩
    · rw [if_neg hk]
      refine ⟨?_, fun g h => ?_⟩
      · rw [List.map_cons]
        exact List.mem_cons_of_mem _ i1
      · rw [List.map_cons] at h ⊢
        rcases List.mem_cons.mp h with e | e
        · exact List.mem_cons.mpr (.inl e)
        · exact List.mem_cons_of_mem _ (i2 g e)
theorem length_putF (f : Str) (v : V) : ∀ fs : List (Str × V), (putF f v fs).length ≤ fs.length + 1
  | [] => by simp [putF]
  | (k, x) :: r => by
    have ih := length_putF f v r
    rw [show putF f v ((k, x) :: r) = (if k = f then (k, v) :: r else (k, x) :: putF f v r) from rfl]
    by_cases hk : k = f
    · rw [if_pos hk, List.length_cons, List.length_cons]; (first | lia | omega)
    · rw [if_neg hk, List.length_cons, List.length_cons]; (first | lia | omega)

theorem RelO.some_of {v : V} {o : Option Value} (r : RelO (some v) o) : ∃ u, o = some u ∧ RelV v u := by
  cases o with
  | none => exact (show False from r).elim
  | some u => exact ⟨u, rfl, r⟩
theorem handed_of {v : V} {u : Value} (r : RelV v u) : PySem.W.handedIn u = true := by
  cases v with
  | non => cases (show u = Value.none from r); rfl
  | bl b => cases (show u = Value.bool b from r); rfl
  | int i => obtain ⟨t, e⟩ := (show ∃ t, u = Value.int i t from r); cases e; rfl
  | str x => obtain ⟨t, e⟩ := (show ∃ t, u = Value.str x t from r); cases e; rfl
  | byt b => obtain ⟨t, e⟩ := (show ∃ t, u = Value.bytes b t from r); cases e; rfl
  | flt b => obtain ⟨t, e⟩ := (show ∃ t, u = Value.float b t from r); cases e; rfl
  | ref a => cases (show u = Value.ref a from r); rfl
  | ty n => cases (show u = Value.type n from r); rfl

section
variable {P : Program} {w : World} {H H' : Hp} {h h' : Heap} {a C dx : Addr} {fs fs' : List (Str × V)}
theorem ins_get (hok : HOk P w H h) (e : H a = some (.ins C dx fs)) : ∃ mA, ObjM h a dx C mA ∧ (∀ f, RelO (fs.lookup f) (mA f)) ∧ PySem.Within mA (fs.map (·.1)) ∧ fs.length ≤ 1000 ∧ H dx = some (.own a) := by
  obtain ⟨d, z, ne, ob, mA, n, r, q⟩ := (show ObjOk P w H h a (.ins C dx fs) from hok a _ e)
  exact ⟨mA, ⟨ob, n, ne⟩, r, q, z, d⟩
end

/-! ### what of the text a class must have -/
structure Cls (K : PySem.W.Frag) (C : Addr) : Prop where
  pg : PySem.W.plainGet K C Str.empty = true
  hd : PySem.W.hasDictIn K C = true
  po : PySem.W.plainOver K C = true
  sa : PySem.W.findIn K (.ref C) "__setattr__" = some (some (.builtin "object.__setattr__"))
theorem Cls.get {K : PySem.W.Frag} {C : Addr} (c : Cls K C) (f : Str) : PySem.W.plainGet K C f = true := c.pg
/-- no class of it has the name -/
def NoAttr (K : PySem.W.Frag) (C : Addr) (f : Str) : Prop := PySem.W.findIn K (.ref C) f = some none
theorem NoAttr.taker {K : PySem.W.Frag} {C : Addr} {f : Str} (n : NoAttr K C f) : PySem.W.takerIn K C f = some none := by
  unfold PySem.W.takerIn
  rw [show PySem.W.findIn K (.ref C) f = some none from n]
  rfl
section
variable {X : Cx} {pins : List (Addr × Obj)} {σ : St} {H : Hp} {s : Shared} {a C dx : Addr} {fs : List (Str × V)} {f : Str} {v : V} {A : Around} {E : Value → Shared → Prop}

theorem getattr_ok {b : Bool} {Q : Value → Shared → Prop} (I : Inv X pins σ H s) (e : H a = some (.ins C dx fs)) (c : Cls X.K C) (n : NoAttr X.K C f) (l : fs.lookup f = some v)
    (h : ∀ u s', Inv X pins σ H s' → RelV v u → Q u s') : wpAny (model X.prog X.w) A (getAttr (.ref a) f b) Q E s := by
  obtain ⟨mA, O, r, _, _, _⟩ := ins_get I.hok e
  obtain ⟨u, hu, ru⟩ := RelO.some_of (v := v) (o := mA f) (by rw [← l]; exact r f)
  exact get_map I.kIn O (c.get f) c.hd n hu (handed_of ru) (h u _ (I.tok _) ru)

theorem setattr_ok {y : V} {u : Value} {Q : Unit → Shared → Prop} (I : Inv X pins σ H s) (e : H a = some (.ins C dx fs)) (c : Cls X.K C) (n : NoAttr X.K C f) (hl : fs.length < 1000) (ry : RelV y u)
    (h : ∀ s', Inv X pins σ (upd H a (.ins C dx (putF f y fs))) s' → Q () s') : wpAny (model X.prog X.w) A (setAttr (.ref a) f u) Q E s := by
  obtain ⟨mA, O, r, wi, _, ho⟩ := ins_get I.hok e
  have hz : (fs.map (·.1)).length ≤ sizeLine := by rw [List.length_map, sizeLine_eq]; (first | lia | omega)
  refine set_map I.kIn O c.sa c.po n.taker c.hd wi hz fun h' O' sb => h _ ?_
  have hd : ∃ o, h'.get? dx = some o := let ⟨o, _, _, e', _⟩ := O'.ns; ⟨o, e'⟩
  refine I.write (x := a) (e := dx) (by rw [e]; exact True.intro) (.inr ho) (fun b q hb z => (sb.2 b hb).trans z) hd ?_
  refine ⟨by rw [upd_ne O.ne]; exact ho, ?_, O.ne, O'.obj, _, O'.ns, fun g => ?_, fun g hg => ?_⟩
  · have := length_putF f y fs; (first | lia | omega)
  · show RelO ((putF f y fs).lookup g) (if g = f then some u else mA g)
    rw [lookup_putF]
    by_cases q : g = f
    · rw [if_pos q, if_pos q]; exact ry
    · rw [if_neg q, if_neg q]; exact r g
  · by_cases q : g = f
    · rw [q]; exact (keys_putF f y fs).1
    · refine (keys_putF f y fs).2 g (wi g fun z => hg ?_)
      show (if g = f then some u else mA g) = none
      rw [if_neg q]; exact z

/-- a new instance, tracked, without attributes -/
theorem Inv.made (I : Inv X pins σ H s) : Inv X pins σ (upd (upd H s.heap.objs.size (.own (s.heap.objs.size + 1))) (s.heap.objs.size + 1) (.ins C s.heap.objs.size []))
    { s with heap := (s.heap.push PySem.W.emptyDict).push (PySem.W.instObj C s.heap.objs.size) } := by
  have e1 : (s.heap.push PySem.W.emptyDict).get? s.heap.objs.size = some PySem.W.emptyDict := Heap.get?_push_size s.heap rfl
  have e2 : ((s.heap.push PySem.W.emptyDict).push (PySem.W.instObj C s.heap.objs.size)).get? (s.heap.objs.size + 1) = some (PySem.W.instObj C s.heap.objs.size) := by
    have := Heap.get?_push_size (s.heap.push PySem.W.emptyDict) (o := PySem.W.instObj C s.heap.objs.size) rfl
    rwa [Heap.size_push] at this
  have e3 : (s.heap.push PySem.W.emptyDict).Ns s.heap.objs.size (fun _ => none) := ⟨PySem.W.emptyDict, #[], _, e1, rfl, (fun e he => absurd he (by simp)), fun _ => rfl⟩
  have I1 := I.laid (a := s.heap.objs.size) (o := .own (s.heap.objs.size + 1)) (h' := s.heap.push PySem.W.emptyDict) (t' := s.toks) (fun b u q => Heap.get?_push_of_some _ q) (Nat.le_refl _) ⟨_, e1⟩
  refine I1.laid (a := s.heap.objs.size + 1) (o := .ins C s.heap.objs.size []) (t' := s.toks) (fun b u q => Heap.get?_push_of_some _ q) (Nat.le_of_eq (Heap.size_push _ _)) ?_
  have ne : s.heap.objs.size ≠ s.heap.objs.size + 1 := Nat.ne_of_lt (Nat.lt_succ_self _)
  refine ⟨by rw [upd_ne ne, upd_same], Nat.zero_le _, ne, e2, fun _ => none, (Heap.Ns1.of_empty e3).at fun o q => Heap.get?_push_of_some _ q, fun _ => True.intro, fun y hy => absurd rfl hy⟩

/-- e.f where nothing but the object is asked: through attributeBase (super) and the last hold -/
theorem attr_of {prog : Program} {w : World} {env : Env} {e : Expr} {f : Str} {pos : Pos} {s : Shared} {Q : Value → Shared → Prop} (hb : attributeBase e f env (eval e env) = eval e env)
    (h : wpAny (model prog w) A (eval e env) (fun o s₁ => wpAny (model prog w) A (getAttr o f true) Q E s₁) E s) : wpAny (model prog w) A (eval (.Attribute e f pos) env) Q E s :=
  Attribute_any_ h (by rw [arm_eval_Attribute, hb])
end

/-! ### readings and rules -/
/-- e.f, an attribute of the instance -/
def tFld (K : PySem.W.Frag) (ta : TE) (f : Str) : TE := fun σ H Q => ta σ H fun x H1 => ∃ a C dx fs v, x = .ref a ∧ H1 a = some (.ins C dx fs) ∧ Cls K C ∧ NoAttr K C f ∧ fs.lookup f = some v ∧ Q v H1
/-- e.f = value -/
def sFld (K : PySem.W.Frag) (ta tv : TE) (f : Str) : TS := fun D σ H => tv σ H fun y H1 => ta σ H1 fun x H2 => ∃ a C dx fs, x = .ref a ∧ H2 a = some (.ins C dx fs) ∧ Cls K C ∧ NoAttr K C f ∧ fs.length < 1000 ∧
  D.nx σ (upd H2 a (.ins C dx (putF f y fs)))
section
variable {X : Cx} {o e value : Expr} {f : Str} {pos pos' tpos : Pos} {ta tv : TE}
theorem pe_fld (he : PE X e ta) (hb : attributeBase e f X.env (eval e X.env) = eval e X.env) : PE X (.Attribute e f pos) (tFld X.K ta f) := by
  intro pins s σ H Q I h
  refine attr_of hb (thn (he pins s σ H _ I h) fun u s1 ⟨x, H1, I1, rx, a, C, dx, fs, v, ex, ea, c, n, l, q⟩ => ?_)
  subst ex
  obtain rfl : u = Value.ref a := rx
  exact getattr_ok I1 ea c n l fun u' s2 I2 ru => ⟨v, H1, I2, ru, q⟩
theorem ps_fld (ha : PE X o ta) (hv : PE X value tv) (hs : swapsWith value (some (.Attribute o f pos')) pos.line X.env = pure false) : PS X (.Assign [.Attribute o f pos'] value pos) (sFld X.K ta tv f) := by
  intro pins s σ H D I h
  refine plainObj_wpAny_Assign_Attribute (thn (hv pins s σ H _ I h) fun u s1 zz38 => ep_elim zz38 fun y H1 I1 ry q => thn (ha pins s1 σ H1 _ I1 q) fun ov s2 ⟨x, H2, I2, rx, a, C, dx, fs, ex, ea, c, n, l, q2⟩ => ?_) hs
  subst ex
  obtain rfl : ov = Value.ref a := rx
  exact setattr_ok I2 ea c n l ry fun s3 I3 => ⟨σ, _, I3, q2⟩
end

/-! ### isinstance -/
section
variable {X : Cx} {pins : List (Addr × Obj)} {σ : St} {H : Hp} {s : Shared} {A : Around} {E : Value → Shared → Prop} {Q : Value → Shared → Prop} {c : Value} {b : Bool}
end
end L2

namespace L2
open PySem PySem.Spec PyProof.Rows

/-! ### room -/
structure Room (k : Nat) (A : Around) : Prop where
  hd : A.handled = none
  dp : A.depth + 3 * k + 5 < recursionLimit
  un : A.units + 16 * k + 200 < cLine
theorem Room.mono {j k : Nat} {A : Around} (r : Room k A) (h : j ≤ k) : Room j A := ⟨r.hd, by have := r.dp; (first | lia | omega), by have := r.un; (first | lia | omega)⟩
theorem Room.deeper {k : Nat} {A : Around} (r : Room (k + 1) A) (env : Env) : Room k (A.deeper env) :=
  ⟨r.hd, by have := r.dp; show A.depth + 1 + 3 * k + 5 < _; (first | lia | omega), by have := r.un; show A.units + 3 + 16 * k + 200 < _; (first | lia | omega)⟩
theorem make_depth {A : Around} {C : Addr} {us : List Value} {kw : List (Str × Value)} : (A.under (.builtin "type.__call__" ⟨.ref C :: us, kw⟩)).depth = A.depth + 1 := by
  first | rfl | simp [Around.under, Code.weight, Code.isCreation, Code.isGuard, Code.isCaller, Code.frames, Code.isFrame, guardIds]
theorem make_units {A : Around} {C : Addr} {us : List Value} {kw : List (Str × Value)} : (A.under (.builtin "type.__call__" ⟨.ref C :: us, kw⟩)).units = A.units + 1 := by
  first | rfl | simp [Around.under, Code.cUnits, Code.frames, Code.isFrame]
theorem Room.make {k : Nat} {A : Around} (r : Room (k + 1) A) (C : Addr) (us : List Value) (kw : List (Str × Value)) : Room k (A.under (.builtin "type.__call__" ⟨.ref C :: us, kw⟩)) :=
  ⟨r.hd, by have := r.dp; rw [make_depth]; (first | lia | omega), by have := r.un; rw [make_units]; (first | lia | omega)⟩
theorem Room.depth {k : Nat} {A : Around} (r : Room k A) : A.depth < recursionLimit := by have := r.dp; (first | lia | omega)
theorem Room.units {k : Nat} {A : Around} (r : Room k A) : A.units + 64 < cLine := by have := r.un; (first | lia | omega)
/-! ### argument lists and displays -/
def tNil : TA := fun _ H Q => Q [] H
def tCons (ta : TE) (tr : TA) : TA := fun σ H Q => ta σ H fun x H1 => tr σ H1 fun xs H2 => Q (x :: xs) H2
section
variable {X : Cx} {e : Expr} {es : List Expr} {te : TE} {t : TA} {pos : Pos}
theorem pa_nil : PA X [] tNil := fun _ _ _ _ H Q I h => Calls.spliced_nil ⟨[], H, I, .nil, h⟩
theorem pa_cons (ha : PE X e te) (hr : PA X es t) (hs : starEach (e :: es) X.env = (false, eval e X.env) :: starEach es X.env := by rfl) : PA X (e :: es) (tCons te t) := by
  intro pos pins s σ H Q I h
  rw [hs]
  show wpAny _ _ (spliced ((false, eval e X.env) :: backTo pos (starEach es X.env))) _ _ s
  refine Calls.spliced_cons (thn (ha pins s σ H _ I h) fun u s1 zz40 => ep_elim zz40 fun x H1 I1 r1 q1 => ?_)
  exact thn (hr pos pins s1 σ H1 _ I1 q1) fun us s2 zz41 => ap_elim zz41 fun xs H2 I2 r2 q2 => ⟨x :: xs, H2, I2, .cons r1 r2, q2⟩

/-- a tuple, a list of written items -/
def tTup (t : TA) : TE := fun σ H Q => t σ H fun xs H1 => xs.length ≤ sizeLine ∧ ∀ p, H1 p = none → Q (.ref p) (upd H1 p (.tup xs))
def tLst (t : TA) : TE := fun σ H Q => t σ H fun xs H1 => xs.length ≤ sizeLine ∧ ∀ p, H1 p = none → Q (.ref p) (upd H1 p (.lst xs))
theorem pe_tup {x1} (h : PA X es t) : PE X (.Tuple es x1 pos) (tTup t) := by
  intro pins s σ H Q I hq
  refine wpAny_Tuple_spliced (thn (h pos pins s σ H _ I hq) fun us s1 ⟨xs, H1, I1, r, z, q⟩ => ⟨by rw [← r.length]; exact z, ?_⟩)
  have hf : H1 s1.heap.objs.size = none := I1.hok.fresh (Nat.le_refl _)
  refine ⟨.ref s1.heap.objs.size, upd H1 s1.heap.objs.size (.tup xs), I1.laid (t' := s1.toks) (fun b u e => Heap.get?_push_of_some _ e) (Nat.le_refl _) ?_, rfl, q _ hf⟩
  exact ⟨z, us, r, ⟨_, Heap.get?_push_size _ rfl, rfl, _, rfl⟩⟩
theorem pe_lst (h : PA X es t) : PE X (.List es pos) (tLst t) := by
  intro pins s σ H Q I hq
  refine wpAny_List_spliced (thn (h pos pins s σ H _ I hq) fun us s1 ⟨xs, H1, I1, r, z, q⟩ => ⟨by rw [← r.length]; exact z, ?_⟩)
  have hf : H1 s1.heap.objs.size = none := I1.hok.fresh (Nat.le_refl _)
  refine ⟨.ref s1.heap.objs.size, upd H1 s1.heap.objs.size (.lst xs), I1.laid (t' := s1.toks) (fun b u e => Heap.get?_push_of_some _ e) (Nat.le_refl _) ?_, rfl, q _ hf⟩
  exact ⟨z, us, 0, r, Heap.get?_push_size _ rfl⟩
end

/-! ### what a def promises -/
/-- a def's promise: the bound arguments in the parameters' order, the heap, the wanted end, the wanted exception -/
abbrev Sp := List V → Hp → VK → XK → Prop
/-- how an exception lies behind a call (file 08 gives it): the callers' frames, abstract heap and state ahead of the call, the wish, the exception, the state -/
abbrev CXT := List Env → Hp → Shared → XK → Value → Shared → Prop

/-- the state at a call -/
structure Env0 (P : Program) (w : World) (K : PySem.W.Frag) (mg : Str → Option Value) (base : Heap) (A : Around) (outer : List Env) (s : Shared) (H : Hp) : Prop where
  frames : A.frames = some outer
  mod : Mod K mg base
  bs : ∀ b o, base.get? b = some o → s.heap.get? b = some o ∧ H b = none
  bsz : base.objs.size ≤ s.heap.objs.size
  funs : s.heap.FunFrames base outer
  frf : ∀ b ∈ frs outer, H b = none
  hok : HOk P w H s.heap
  bare : AllBare s.gens
/-- a call's end -/
def CE (outer : List Env) (P : Program) (w : World) (H : Hp) (s : Shared) (Q : VK) (u : Value) (s' : Shared) : Prop :=
  ∃ v H', s'.os = s.os ∧ AllBare s'.gens ∧ Un (frs outer) [] H H' s.heap s'.heap ∧ HOk P w H' s'.heap ∧ RelV v u ∧ Q v H'
def CR (CX : CXT) (outer : List Env) (P : Program) (w : World) (H : Hp) (s : Shared) (Q : VK) (E : XK) (r : Result) (s' : Shared) : Prop :=
  match r with
  | .ok (.ret u) => CE outer P w H s Q u s'
  | .ok _ => False
  | .error e => CX outer H s E e s'
structure FnOk (P : Program) (w : World) (K : PySem.W.Frag) (mg : Str → Option Value) (base : Heap) (CX : CXT) (k : Nat) (f : Addr) (fd : FuncData) (ps : List Str) (sp : Sp) : Prop where
  len : ∀ vs H Q E, sp vs H Q E → vs.length = ps.length
  run : ∀ (A : Around) (outer : List Env) (s : Shared) (H : Hp) (args : Args) (us : List Value) (vs : List V) (Q : VK) (E : XK), Room k A → Env0 P w K mg base A outer s H → BindsTo s fd args (ps.zip us) → Vals vs us → sp vs H Q E →
    codeAny (model P w) A (.call (.ref f) args) (CR CX outer P w H s Q E) s
theorem Env0.make {P : Program} {w : World} {K : PySem.W.Frag} {mg : Str → Option Value} {base : Heap} {A : Around} {outer : List Env} {s : Shared} {H : Hp} (e : Env0 P w K mg base A outer s H) (C : Addr) (us : List Value) (kw : List (Str × Value)) :
    Env0 P w K mg base (A.under (.builtin "type.__call__" ⟨.ref C :: us, kw⟩)) outer s H := ⟨by first | exact e.frames | (simpa [Around.under, Code.envs, Code.isFrame, pushEnvs] using e.frames), e.mod, e.bs, e.bsz, e.funs, e.frf, e.hok, e.bare⟩
section
variable {X : Cx} {pins : List (Addr × Obj)} {σ : St} {H : Hp} {s s' : Shared}
/-- from a body: what a callee wants -/
theorem Inv.env0 (I : Inv X pins σ H s) : Env0 X.prog X.w X.K X.mg X.base X.A X.stack s H :=
  ⟨I.ok.frames, I.ok.mod, I.bs, Nat.le_trans I.ok.bsz I.sz, I.stack, I.stkFree, I.hok, I.bare⟩
/-- behind a call -/
theorem Inv.after {Q : VK} {u : Value} (I : Inv X pins σ H s) (h : CE X.stack X.prog X.w H s Q u s') : EP X pins σ Q u s' := by
  obtain ⟨v, H', os, bare, un, hok, r, q⟩ := h
  obtain ⟨hh, g, d, t, os'⟩ := s'
  obtain rfl : os' = s.os := os
  exact ⟨v, H', I.call (h' := hh) (g' := g) (d' := d) (t' := t) (ch := []) un hok bare (fun b z => absurd z (by simp)), r, q⟩
end

/-! ### calls -/
/-- f(..): the written arguments, then the defaults dvs; E: what is wanted of an exception -/
def tCall (sp : Sp) (dvs : List V) (E : XK) (t : TA) : TE := fun σ H Q => t σ H fun vs H1 => sp (vs ++ dvs) H1 Q E
/-- C(..): a new instance and its dict, then __init__ -/
def tMake (C : Addr) (sp : Sp) (dvs : List V) (E : XK) (t : TA) : TE := fun σ H Q => t σ H fun vs H1 => ∀ x dx, H1 x = none → H1 dx = none → dx ≠ x →
  sp (.ref x :: (vs ++ dvs)) (upd (upd H1 dx (.own x)) x (.ins C dx [])) (fun v H2 => v = .non ∧ Q (.ref x) H2) E

/-- how the parameters are bound: us the positional arguments, kw the keywords' values by name, ds the defaults that fill up -/
def Binds (K : PySem.W.Frag) (fd : FuncData) (ps : List Str) (ds : List Value) : Prop :=
  ∀ (s : Shared) (us : List Value), K.In s.heap → (us ++ ds).length = ps.length → BindsTo s fd ⟨us, []⟩ (ps.zip (us ++ ds))
/-- every parameter is given -/
theorem Binds.all {K : PySem.W.Frag} {fd : FuncData} {ps : List Str} (h : ∀ us : List Value, us.length = ps.length → bindArgs fd ⟨us, []⟩ = pure (ps.zip us)) : Binds K fd ps [] := fun s us _ hl => by
  rw [List.append_nil] at hl ⊢
  exact .of_eq (h us hl)

/-- an exception of a callee reaches what this body wants of exceptions -/
def Passes (CX : CXT) (X : Cx) (E : XK) : Prop := ∀ (pins : List (Addr × Obj)) (σ : St) (H : Hp) (s : Shared) (e : Value) (s' : Shared), Inv X pins σ H s → CX X.stack H s E e s' → X.xe e s'

section
variable {X : Cx} {CX : CXT} {k : Nat} {f C : Addr} {fd : FuncData} {ps : List Str} {sp : Sp} {dvs : List V} {ds : List Value} {E : XK} {x m : Str} {p pos apos : Pos} {e o : Expr} {es : List Expr} {ta : TE} {t : TA}

/-- the callee runs -/
theorem run_fn {pins : List (Addr × Obj)} {σ : St} {H : Hp} {s : Shared} {Q : VK} {us : List Value} {vs : List V} (F : FnOk X.prog X.w X.K X.mg X.base CX k f fd ps sp) (hr : Room k X.A) (hb : Binds X.K fd ps ds) (hd : Vals dvs ds) (hx : Passes CX X E)
    (I : Inv X pins σ H s) (r : Vals vs us) (h : sp (vs ++ dvs) H Q E) : wpAny (model X.prog X.w) X.A (call (.ref f) us) (EP X pins σ Q) X.xe s := by
  have r2 : Vals (vs ++ dvs) (us ++ ds) := r.append hd
  have hl : (us ++ ds).length = ps.length := by rw [← r2.length]; exact F.len _ _ _ _ h
  refine wpAny_call (codeAny_mono (F.run X.A X.stack s H ⟨us, []⟩ (us ++ ds) (vs ++ dvs) Q E hr I.env0 (hb s us I.kIn hl) r2 h) fun r s' hq => ?_)
  cases r with
  | error e => exact hx pins σ H s e s' I hq
  | ok fl =>
    cases fl with
    | ret u => exact I.after hq
    | next => exact False.elim hq
    | brk => exact False.elim hq
    | cont => exact False.elim hq

theorem pe_call (F : FnOk X.prog X.w X.K X.mg X.base CX k f fd ps sp) (hr : Room k X.A) (hg : Gl X x) (hm : X.mg x = some (.ref f)) (hk : PySem.W.keepIn X.K (.ref f) = true) (hb : Binds X.K fd ps ds) (hd : Vals dvs ds) (hx : Passes CX X E)
    (ha : PA X (e :: es) t) (hdb : (x == ("__debug__" : Str)) = false := by decide) (he : starEach (e :: es) X.env = (false, eval e X.env) :: starEach es X.env := by rfl) (hpl : (backTo pos (starEach es X.env)).any (·.1) = false := by rfl) :
    PE X (.Call (.Name x p) (e :: es) [] pos) (tCall sp dvs E t) := by
  intro pins s σ H Q I h
  refine wpAny_Call_Name_kw (ld_glob I hg hm ?_ hdb)
  refine PySem.W.callWith_K (h₀ := X.base) I.ok.mod.kin hk (thn (ha pos pins s σ H _ I h) fun us s1 zz42 => ap_elim zz42 fun vs H1 I1 r q => ⟨I1.kIn, ?_⟩) he hpl
  exact run_fn F hr hb hd hx I1 r q
/-- what a class must have to be made -/
structure Mk (K : PySem.W.Frag) (C f : Addr) : Prop where
  makes : PySem.W.makesIn K C = true
  init : PySem.W.findIn K (.ref C) "__init__" = some (some (.ref f))
  fn : PySem.W.isFn K (.ref f) = true
  kp : PySem.W.keepIn K (.ref C) = true

theorem run_make {pins : List (Addr × Obj)} {σ : St} {H : Hp} {s : Shared} {Q : VK} {us : List Value} {vs : List V} (M : Mk X.K C f) (F : FnOk X.prog X.w X.K X.mg X.base CX k f fd ps sp) (hr : Room (k + 1) X.A) (hb : Binds X.K fd ps ds) (hd : Vals dvs ds)
    (hx : Passes CX X E) (I : Inv X pins σ H s) (r : Vals vs us)
    (h : ∀ x dx, H x = none → H dx = none → dx ≠ x → sp (.ref x :: (vs ++ dvs)) (upd (upd H dx (.own x)) x (.ins C dx [])) (fun v H2 => v = .non ∧ Q (.ref x) H2) E) :
    wpAny (model X.prog X.w) X.A (call (.ref C) us) (EP X pins σ Q) X.xe s := by
  have hq := h (s.heap.objs.size + 1) s.heap.objs.size (I.hok.fresh (Nat.le_succ _)) (I.hok.fresh (Nat.le_refl _)) (Nat.ne_of_lt (Nat.lt_succ_self _))
  have I2 := Inv.made (C := C) I
  have r2 : Vals (V.ref (s.heap.objs.size + 1) :: (vs ++ dvs)) (Value.ref (s.heap.objs.size + 1) :: (us ++ ds)) := .cons rfl (r.append hd)
  have hl : (Value.ref (s.heap.objs.size + 1) :: us ++ ds).length = ps.length := by
    have e := r2.length
    rw [F.len _ _ _ _ hq] at e
    exact e.symm
  refine wpAny_call (make_map (f := f) I.kIn M.makes M.init (beq_iff_eq.mp M.fn) (codeAny_mono (F.run _ X.stack _ _ ⟨Value.ref (s.heap.objs.size + 1) :: us, []⟩ (Value.ref (s.heap.objs.size + 1) :: (us ++ ds)) _ _ E (hr.make C us [])
    (I2.env0.make C us []) (hb _ (Value.ref (s.heap.objs.size + 1) :: us) I2.kIn hl) r2 hq) fun r s' hq' => ?_))
  cases r with
  | error e => exact hx pins σ _ _ e s' I2 hq'
  | ok fl =>
    cases fl with
    | ret u =>
      obtain ⟨v, H', I3, rv, ev, q3⟩ := I2.after hq'
      subst ev
      exact ⟨rv, ⟨V.ref (s.heap.objs.size + 1), H', I3, rfl, q3⟩⟩
    | next => exact False.elim hq'
    | brk => exact False.elim hq'
    | cont => exact False.elim hq'
theorem pe_make (M : Mk X.K C f) (F : FnOk X.prog X.w X.K X.mg X.base CX k f fd ps sp) (hr : Room (k + 1) X.A) (hg : Gl X x) (hm : X.mg x = some (.ref C)) (hb : Binds X.K fd ps ds) (hd : Vals dvs ds) (hx : Passes CX X E)
    (ha : PA X (e :: es) t) (hdb : (x == ("__debug__" : Str)) = false := by decide) (he : starEach (e :: es) X.env = (false, eval e X.env) :: starEach es X.env := by rfl) (hpl : (backTo pos (starEach es X.env)).any (·.1) = false := by rfl) :
    PE X (.Call (.Name x p) (e :: es) [] pos) (tMake C sp dvs E t) := by
  intro pins s σ H Q I h
  refine wpAny_Call_Name_kw (ld_glob I hg hm ?_ hdb)
  refine PySem.W.callWith_K (h₀ := X.base) I.ok.mod.kin M.kp (thn (ha pos pins s σ H _ I h) fun us s1 zz44 => ap_elim zz44 fun vs H1 I1 r q => ⟨I1.kIn, ?_⟩) he hpl
  exact run_make M F hr hb hd hx I1 r q
end

/-! ### keywords -/
section
variable {X : Cx} {CX : CXT} {k : Nat} {f C : Addr} {fd : FuncData} {ps ks : List Str} {sp : Sp} {E : XK} {x m : Str} {p pos apos kpos : Pos} {e o : Expr} {es : List Expr} {kws : List Keyword} {te ta : TE} {t tk : TA} {nm : Option Str}
variable {g : List Value → List Value → List Value} {gV : List V → List V → List V}
end

/-! ### a def's body keeps its promise -/
/-- names: the parameters first -/
structure FnScope (N P : List Str) (sc : Scope) : Prop where
  kind : sc.kind = .function
  co : sc.isCoroutine = false
  gen : sc.isGenerator = false
  nd : N.Nodup
  pre : N.take P.length = P
  par : ∀ x ∈ P, sc.names.lookup x = some .local ∨ sc.names.lookup x = some .cell
  nofree : ∀ y ∈ sc.names, y.2 ≠ .free

theorem bindL_out {kindOf : Str → Option NameKind} {x : Str} : ∀ {binds : List (Str × Value)} {m : Str → Option Value}, (∀ v, (x, v) ∉ binds) → bindL kindOf binds m x = m x
  | [], _, _ => rfl
  | (n, v) :: r, m, h => by
    unfold bindL
    rw [bindL_out fun w hw => h w (List.mem_cons_of_mem _ hw)]
    split
    · have : x ≠ n := by rintro rfl; exact h v List.mem_cons_self
      simp [this]
    · rfl
theorem bindC_out {kindOf : Str → Option NameKind} {x : Str} : ∀ {binds : List (Str × Value)} {m : Str → Option Value}, (∀ v, (x, v) ∉ binds) → bindC kindOf binds m x = m x
  | [], _, _ => rfl
  | (n, v) :: r, m, h => by
    unfold bindC
    rw [bindC_out fun w hw => h w (List.mem_cons_of_mem _ hw)]
    split
    · rfl
    · have : x ≠ n := by rintro rfl; exact h v List.mem_cons_self
      simp [this]
theorem bindL_get {kindOf : Str → Option NameKind} {x : Str} {v : Value} : ∀ {P : List Str} {vs : List Value} {i : Nat} {m : Str → Option Value}, P.Nodup → P[i]? = some x → vs[i]? = some v → kindOf x = some .local →
    bindL kindOf (P.zip vs) m x = some v
  | [], _, _, _, _, h, _, _ => by simp at h
  | _ :: _, [], _, _, _, _, h, _ => by simp at h
  | p :: P, w :: vs, 0, m, nd, h1, h2, hk => by
    simp at h1 h2; subst h1; subst h2
    show bindL kindOf ((p, w) :: P.zip vs) m p = _
    unfold bindL
    rw [bindL_out fun v hv => (List.nodup_cons.mp nd).1 (List.of_mem_zip hv).1, if_pos hk]
    simp
  | p :: P, w :: vs, i + 1, m, nd, h1, h2, hk => by
    show bindL kindOf ((p, w) :: P.zip vs) m x = _
    unfold bindL
    exact bindL_get (i := i) (List.nodup_cons.mp nd).2 (by simpa using h1) (by simpa using h2) hk
theorem bindC_get {kindOf : Str → Option NameKind} {x : Str} {v : Value} : ∀ {P : List Str} {vs : List Value} {i : Nat} {m : Str → Option Value}, P.Nodup → P[i]? = some x → vs[i]? = some v → kindOf x ≠ some .local →
    bindC kindOf (P.zip vs) m x = some v
  | [], _, _, _, _, h, _, _ => by simp at h
  | _ :: _, [], _, _, _, _, h, _ => by simp at h
  | p :: P, w :: vs, 0, m, nd, h1, h2, hk => by
    simp at h1 h2; subst h1; subst h2
    show bindC kindOf ((p, w) :: P.zip vs) m p = _
    unfold bindC
    rw [bindC_out fun v hv => (List.nodup_cons.mp nd).1 (List.of_mem_zip hv).1, if_neg hk]
    simp
  | p :: P, w :: vs, i + 1, m, nd, h1, h2, hk => by
    show bindC kindOf ((p, w) :: P.zip vs) m x = _
    unfold bindC
    exact bindC_get (i := i) (List.nodup_cons.mp nd).2 (by simpa using h1) (by simpa using h2) hk

/-- the names' values at the entry -/
def start (N : List Str) (vs : List V) : St := vs.map some ++ List.replicate (N.length - vs.length) none

/-- the context of a def's body, at its entry; an exception leaves the frame, then lies as CX says -/
def cxOf (CX : CXT) (P : Program) (w : World) (K : PySem.W.Frag) (mg : Str → Option Value) (base : Heap) (N : List Str) (qual : Str) (scope : Scope) (f : Addr) (cd : Value) (A : Around) (outer : List Env) (s : Shared) (H : Hp) (E : XK) : Cx where
  prog := P
  w := w
  K := K
  mg := mg
  base := base
  A := A.deeper (envOfC qual scope s.heap.objs.size f cd)
  N := N
  s₀ := s
  H₀ := H
  env := envOfC qual scope s.heap.objs.size f cd
  outer := outer
  stack := envOfC qual scope s.heap.objs.size f cd :: outer
  ex := []
  calm := true
  fn := fun _ => true
  pn := []
  xe := fun e s' => wpAny (model P w) (A.deeper (envOfC qual scope s.heap.objs.size f cd)) (leaving (envOfC qual scope s.heap.objs.size f cd) e) (fun _ s'' => CX outer H s E e s'') (fun e' s'' => CX outer H s E e' s'') s'

theorem cell_has {sc : Scope} {n : Nat} {x : Str} (h : sc.names.lookup x = some .cell) : ∃ c, (cellsFrom n sc.names []).lookup x = some c := by
  have q := PySem.W.cellsFrom_some sc.names n [] (.inl h)
  exact Option.isSome_iff_exists.mp q

theorem inv_start {CX : CXT} {P : Program} {w : World} {K : PySem.W.Frag} {mg : Str → Option Value} {base : Heap} {N ps : List Str} {qual : Str} {scope : Scope} {f : Addr} {cd : Value} {A : Around} {outer : List Env} {s s1 : Shared} {H : Hp} {E : XK} {us : List Value} {vs : List V}
    (S : FnScope N ps scope) (hd : A.handled = none) (e0 : Env0 P w K mg base A outer s H) (hl : vs.length = ps.length) (r : Vals vs us)
    (x : InCallC s s.heap.objs.size (bindL (envOfC qual scope s.heap.objs.size f cd).kindOf (ps.zip us) fun _ => none) (cellsFrom (s.heap.objs.size + 1) scope.names []) (bindC (envOfC qual scope s.heap.objs.size f cd).kindOf (ps.zip us) fun _ => none) s1) :
    Inv (cxOf CX P w K mg base N qual scope f cd A outer s H E) [] (start N vs) H s1 := by
  have hpl : ps.length ≤ N.length := by have := congrArg List.length S.pre; rw [List.length_take] at this; (first | lia | omega)
  obtain ⟨h1, tk, rfl, hk⟩ := x.done
  have noA : ∀ b : Addr, b ∉ (cxOf CX P w K mg base N qual scope f cd A outer s H E).ex := fun b z => absurd (show b ∈ ([] : List Addr) from z) (by simp)
  refine ⟨⟨e0.mod, S.kind, rfl, rfl, Nat.le_refl _, fun y z c h1 h2 => ?_, fun y hy => ?_, fun y c _ h => ?_, fun _ => hd, Around.frames_deeper e0.frames, .inr ⟨rfl, rfl⟩, fun b z => absurd z (noA b), e0.bs, e0.bsz, fun b _ _ => noA b, fun b z => absurd z (noA b), e0.funs, e0.frf⟩,
    rfl, e0.bare, Un.kept hk, ⟨_, x.toInCall.ns, fun i y v h1 h2 h3 => ?_⟩, fun y c h => ⟨_, x.cell y c h⟩, e0.hok.fresh (Nat.le_refl _), fun y c h => ?_, fun p hp => absurd (show p ∈ ([] : List (Addr × Obj)) from hp) (by simp), e0.hok.kept hk, ?_⟩
  · exact name_of_addr x.apart (PySem.mem_of_lookup h1) (PySem.mem_of_lookup h2)
  · have hy : scope.names.lookup y = some .cell ∨ scope.names.lookup y = some .free := hy
    rcases hy with hy | hy
    · exact cell_has hy
    · exact absurd rfl (S.nofree _ (PySem.mem_of_lookup hy))
  · exact Nat.le_of_lt (x.above y c (PySem.mem_of_lookup h))
  · have hi : i < vs.length := by
      unfold start at h2
      by_cases hi : i < vs.length
      · exact hi
      · rw [List.getElem?_append_right (by simpa using hi)] at h2
        rw [List.getElem?_replicate] at h2
        split at h2 <;> cases h2
    have ha : vs[i]? = some v := by
      unfold start at h2
      rw [List.getElem?_append_left (by simpa using hi), List.getElem?_map] at h2
      cases e : vs[i]? with
      | none => rw [e] at h2; cases h2
      | some a => rw [e] at h2; cases h2; rfl
    obtain ⟨u, hu, rv⟩ := r.get ha
    have hp : ps[i]? = some y := by
      rw [← S.pre, List.getElem?_take_of_lt (by (first | lia | omega))]; exact h1
    have ndP : ps.Nodup := by rw [← S.pre]; exact S.nd.sublist (List.take_sublist _ _)
    refine ⟨u, rv, ?_⟩
    rcases S.par y (List.mem_of_getElem? hp) with k | k
    · exact .inl ⟨k, bindL_get ndP hp hu k⟩
    · obtain ⟨c, e⟩ := cell_has (n := s.heap.objs.size + 1) k
      refine .inr ⟨.inl k, c, e, ?_⟩
      have q := x.cell y c e
      rw [bindC_get ndP hp hu (by show scope.names.lookup y ≠ _; rw [k]; decide)] at q
      exact q
  · exact e0.hok.fresh (Nat.le_of_lt (x.above y c (PySem.mem_of_lookup h)))
  · unfold start
    show _ = N.length
    rw [List.length_append, List.length_map, List.length_replicate]
    (first | lia | omega)

/-- THE RULE: a def (or a method) of the text, by its body. The body's reading t is chosen for each entry; it is run at the parameters' values -/
theorem fn_of {CX : CXT} {P : Program} {w : World} {K : PySem.W.Frag} {mg : Str → Option Value} {base : Heap} {k : Nat} {f : Addr} {name qual : Str} {params : Arguments} {body : List Stmt} {scope : Scope} {dV kV doc pm cdv ct oc : Value} {an od : Option Addr}
    {osl : Array (Option Value)} {N ps : List Str} {sp : Sp} (lk : K.lookup f = some ⟨oc, od, .func (PySem.W.fnOf name qual params body scope dV kV doc pm an cdv ct), osl⟩) (hcd : PySem.W.codeIn K cdv qual = true) (S : FnScope N ps scope)
    (len : ∀ vs H Q E, sp vs H Q E → vs.length = ps.length)
    (hbody : ∀ (A : Around) (outer : List Env) (s : Shared) (H : Hp) (vs : List V) (Q : VK) (E : XK), Room k (A.deeper (envOfC qual scope s.heap.objs.size f cdv)) → sp vs H Q E →
      ∃ t, PSs (cxOf CX P w K mg base N qual scope f cdv A outer s H E) body t ∧ t { nx := fun _ H' => Q .non H', rt := Q } (start N vs) H) :
    FnOk P w K mg base CX (k + 1) f (PySem.W.fnOf name qual params body scope dV kV doc pm an cdv ct) ps sp := by
  refine ⟨len, fun A outer s H args us vs Q E hr e0 hb r hsp => ?_⟩
  have hl := len _ _ _ _ hsp
  have KX : K.In s.heap := e0.mod.kin.keeps fun b o e => (e0.bs b o e).1
  have lim : s.heap.NoLimit := e0.mod.nolimit.keeps fun b o e => (e0.bs b o e).1
  have hkind : ∀ y ∈ ps.zip us, scope.names.lookup y.1 = some .local ∨ (scope.names.lookup y.1 = some .cell ∧ ((cellsFrom (s.heap.objs.size + 1) scope.names []).lookup y.1).isSome = true) := fun ⟨n, v⟩ hy => by
    rcases S.par n (List.of_mem_zip hy).1 with q | q
    · exact .inl q
    · exact .inr ⟨q, PySem.W.cellsFrom_some _ _ _ (.inl q)⟩
  refine codeAny_call_function hr.depth (KX _ _ lk) rfl S.co S.gen rfl (PySem.W.codeRec_of KX hcd) (hb _ _ _ _ ?_)
  refine wpAny_newFunctionEnv_cells S.kind hkind fun env he s1 x => ?_
  subst he
  refine ⟨lim.keeps x.toInCall.keep, codeAny_func ?_⟩
  obtain ⟨t, ht, hq⟩ := hbody A outer s H vs Q E (hr.deeper _) hsp
  have I : Inv (cxOf CX P w K mg base N qual scope f cdv A outer s H E) [] (start N vs) H s1 := inv_start S hr.hd e0 hl r x
  refine wpAny_mono (ht [] s1 (start N vs) H _ I hq) (fun fl s' hs => ?_) fun e s' hs => hs
  have fin : ∀ {σ' : St} {H' : Hp} {v : V} {u : Value}, Inv (cxOf CX P w K mg base N qual scope f cdv A outer s H E) [] σ' H' s' → RelV v u → Q v H' → CE outer P w H s Q u s' :=
    fun {σ' H' v u} J rv q => ⟨v, H', J.os, J.bare, J.base, J.hok, rv, q⟩
  cases fl with
  | ret u =>
    obtain ⟨v, σ', H', J, rv, q⟩ := hs
    exact fin J rv q
  | next =>
    obtain ⟨σ', H', J, q⟩ := hs
    exact fin (v := V.non) (u := Value.none) J rfl q
  | brk =>
    obtain ⟨_, _, _, q⟩ := hs
    exact False.elim q
  | cont =>
    obtain ⟨_, _, _, q⟩ := hs
    exact False.elim q
end L2

namespace L2
open PySem PySem.Spec PyProof.Rows
section
variable {X : Cx} {x : Str} {p pos : Pos} {e : Expr} {es : List Expr} {t : TA} {id T : String} {r : List V → Hp → VK → Prop}

def tCB (r : List V → Hp → VK → Prop) (t : TA) : TE := fun σ H Q => t σ H fun vs H1 => r vs H1 Q
/-- f(e, ..), f a built-in function -/
theorem pe_callB (hc : CallR X (.builtin id) r) (hg : Gl X x) (hm : X.mg x = none) (hv : bootBuiltins x = some (.builtin id)) (ha : PA X (e :: es) t) (hn : x ≠ "__name__" := by decide) (hdb : (x == ("__debug__" : Str)) = false := by decide)
    (he : starEach (e :: es) X.env = (false, eval e X.env) :: starEach es X.env := by rfl) (hpl : (backTo pos (starEach es X.env)).any (·.1) = false := by rfl) : PE X (.Call (.Name x p) (e :: es) [] pos) (tCB r t) := by
  intro pins s σ H Q I h
  refine wpAny_Call_Name_kw (ld_blt I hg hm hv ?_ hn hdb)
  exact PyProof.Rows.callWith_builtin1 (thn (ha pos pins s σ H _ I h) fun us s1 zz49 => ap_elim zz49 fun vs H1 I1 r1 q1 => hc pins s1 σ H1 vs us Q I1 r1 q1) he hpl
/-- T(e, ..), T a built-in type -/
theorem pe_callTy (hc : CallR X (.type T) r) (hg : Gl X x) (hm : X.mg x = none) (hv : bootBuiltins x = some (.type T)) (ha : PA X (e :: es) t) (hn : x ≠ "__name__" := by decide) (hdb : (x == ("__debug__" : Str)) = false := by decide)
    (he : starEach (e :: es) X.env = (false, eval e X.env) :: starEach es X.env := by rfl) (hpl : (backTo pos (starEach es X.env)).any (·.1) = false := by rfl) : PE X (.Call (.Name x p) (e :: es) [] pos) (tCB r t) := by
  intro pins s σ H Q I h
  refine wpAny_Call_Name_kw (ld_blt I hg hm hv ?_ hn hdb)
  exact PyProof.Rows.callWith_type1 (thn (ha pos pins s σ H _ I h) fun us s1 zz50 => ap_elim zz50 fun vs H1 I1 r1 q1 => hc pins s1 σ H1 vs us Q I1 r1 q1) he hpl
end
end L2

namespace HT
open PySem PyProof.Rows

section
open PySem.SeqAt
open PySem.AutoSeq1 (wpAny_loadPart')
open PySem.MeetsSeq PySem.MeetsSeq2 PySem.MeetsSeq3

end

section
variable {prog : Program} {w : World} {A : Around} {E : Value → Shared → Prop} {s : Shared}

/-! ### t[a:b], not the whole -/
/-- a slice's bound as a place among n (d where it is left out) -/
def sIx (n d : Nat) : Option Int → Nat
  | none => d
  | some v => if v < 0 then (v + (n : Int)).toNat else min v.toNat n
theorem sIx_nat (n d k : Nat) : sIx n d (some (k : Int)) = min k n := by
  show (if (k : Int) < 0 then ((k : Int) + (n : Int)).toNat else min (k : Int).toNat n) = min k n
  rw [if_neg (by (first | lia | omega)), Int.toNat_natCast]
end
end HT

namespace L2
open PySem PySem.Spec PyProof.Rows

/-! ### the parts of a slice -/
abbrev TO := St → Hp → (Option Int → Hp → Prop) → Prop
/-- a slice's part (left out, or an int) -/
def PO (X : Cx) (e : Option Expr) (t : TO) : Prop :=
  ∀ (pins : List (Addr × Obj)) (s : Shared) (σ : St) (H : Hp) (Q : Option Int → Hp → Prop), Inv X pins σ H s → t σ H Q →
    wpAny (model X.prog X.w) X.A (evalPart e X.env) (fun u s' => ∃ o H', Inv X pins σ H' s' ∧ IsPart u o ∧ Q o H') X.xe s
def tNoPart : TO := fun _ H Q => Q none H
def tPart (t : TE) : TO := fun σ H Q => t σ H fun x H1 => ∃ i, x = .int i ∧ Q (some i) H1

section
variable {X : Cx} {e : Expr} {te : TE} {lo hi : Option Expr} {tl th : TO} {pos p2 : Pos}

theorem po_none : PO X none tNoPart := by
  intro pins s σ H Q I h
  rw [evalPart_none]
  exact wpAny_pure ⟨none, H, I, .none, h⟩
theorem po_some (h : PE X e te) : PO X (some e) (tPart te) := by
  intro pins s σ H Q I hw
  rw [evalPart_some]
  refine thn (h pins s σ H _ I hw) fun u s1 zz51 => ep_elim zz51 fun x H1 I1 r1 q1 => ?_
  obtain ⟨i, rfl, q⟩ := q1
  obtain ⟨t, rfl⟩ := r1
  exact ⟨some i, H1, I1, .int i t, q⟩

/-- what a slice of a value is, by values: the slice object stands at sl -/
def SlR (X : Cx) (r : V → Option Int → Option Int → Hp → VK → Prop) : Prop :=
  ∀ (pins : List (Addr × Obj)) (s : Shared) (σ : St) (H : Hp) (x : V) (v vl vu : Value) (lo hi : Option Int) (sl : Addr) (Q : VK), Inv X pins σ H s → RelV x v → s.heap.IsSliceOf sl vl vu .none → IsPart vl lo → IsPart vu hi → r x lo hi H Q →
    ∃ T id, typeLookup (.type T) "__getitem__" = pure (some (.builtin id)) ∧ s.TypeIs v T ∧ wpAny (model X.prog X.w) X.A (getItem v (.ref sl)) (EP X pins σ Q) X.xe s
def tSl (r : V → Option Int → Option Int → Hp → VK → Prop) (te : TE) (tl th : TO) : TE := fun σ H Q => te σ H fun x H1 => tl σ H1 fun l H2 => th σ H2 fun u H3 => r x l u H3 Q
/-- a[lo:hi], any a -/
theorem pe_slice {r : V → Option Int → Option Int → Hp → VK → Prop} (hr : SlR X r) (he : PE X e te) (hl : PO X lo tl) (hu : PO X hi th) : PE X (.Subscript e (.Slice lo hi none p2) pos) (tSl r te tl th) := by
  intro pins s σ H Q I h
  refine Subscript_ (thn (he pins s σ H _ I h) fun v s1 zz52 => ep_elim zz52 fun x H1 I1 r1 q1 => ?_)
  refine wpAny_Slice (thn (hl pins s1 σ H1 _ I1 q1) fun vl s2 ⟨l, H2, I2, pl, q2⟩ => thn (hu pins s2 σ H2 _ I2 q2) fun vu s3 ⟨u, H3, I3, pu, q3⟩ => ?_)
  rw [evalPart_none]
  refine wpAny_pure ?_
  have I4 : Inv X pins σ H3 { s3 with heap := s3.heap.push { cls := .type "slice", data := .fields #[vl, vu, .none] } } := I3.kept (t' := s3.toks) fun b ob q => Heap.get?_push_of_some _ q
  obtain ⟨T, id, hT, ht, hg⟩ := hr pins { s3 with heap := s3.heap.push { cls := .type "slice", data := .fields #[vl, vu, .none] } } σ H3 x v vl vu l u s3.heap.objs.size Q I4 r1 (Heap.IsSliceOf.new ..) pl pu q3
  show wpAny (model X.prog X.w) X.A (subscriptTail e (.Slice lo hi none p2) v (.ref s3.heap.objs.size)) (EP X pins σ Q) X.xe { s3 with heap := s3.heap.push { cls := .type "slice", data := .fields #[vl, vu, .none] } }
  exact tail_any (ops := [.ref s3.heap.objs.size, v]) ht hT hg (by with_unfolding_all rfl)

/-- the items of xs[lo:hi] -/
def cutV (xs : List V) (lo hi : Option Int) : List V := (xs.drop (HT.sIx xs.length 0 lo)).take (HT.sIx xs.length xs.length hi - HT.sIx xs.length 0 lo)
theorem cutV_length (xs : List V) (lo hi : Option Int) : (cutV xs lo hi).length ≤ xs.length := by
  unfold cutV
  rw [List.length_take, List.length_drop]
  (first | lia | omega)
/-! ### t < u, t + u -/
end
end L2

namespace L2
open PySem PySem.Spec PyProof.Rows

/-! ### places -/
/-- the place that an index of any sign means -/
def ixN (n : Nat) (i : Int) : Option Nat := if 0 ≤ i then (if i < n then some i.toNat else none) else if -(n : Int) ≤ i then some (i + n).toNat else none
def atI {α : Type} (xs : List α) (i : Int) : Option α := (ixN xs.length i).bind fun j => xs[j]?
theorem ixN_seq {n : Nat} {i : Int} {j : Nat} (h : ixN n i = some j) : seqIndex? i n = some j ∧ j < n ∧ -(n : Int) ≤ i ∧ i < n := by
  unfold ixN at h
  by_cases h0 : 0 ≤ i
  · rw [if_pos h0] at h
    by_cases h1 : i < n
    · rw [if_pos h1] at h
      have e : i.toNat = j := Option.some.inj h
      exact ⟨by rw [seqIndex_of h0 h1, e], by (first | lia | omega), by (first | lia | omega), h1⟩
    · rw [if_neg h1] at h; cases h
  · rw [if_neg h0] at h
    by_cases h1 : -(n : Int) ≤ i
    · rw [if_pos h1] at h
      have e : (i + n).toNat = j := Option.some.inj h
      exact ⟨by rw [seqIndex_neg (by (first | lia | omega)) h1, e], by (first | lia | omega), h1, by (first | lia | omega)⟩
    · rw [if_neg h1] at h; cases h
theorem atI_get {α : Type} {xs : List α} {i : Int} {v : α} (h : atI xs i = some v) : ∃ j, seqIndex? i xs.length = some j ∧ xs[j]? = some v ∧ j < xs.length ∧ -(xs.length : Int) ≤ i ∧ i < xs.length := by
  unfold atI at h
  cases e : ixN xs.length i with
  | none => rw [e] at h; cases h
  | some j =>
    rw [e] at h
    obtain ⟨h1, h2, h3, h4⟩ := ixN_seq e
    exact ⟨j, h1, h, h2, h3, h4⟩
theorem atI_nat {α : Type} {xs : List α} {j : Nat} {v : α} (h : xs[j]? = some v) : atI xs (j : Int) = some v := by
  have hj : j < xs.length := (List.getElem?_eq_some_iff.mp h).1
  have e : ixN xs.length (j : Int) = some j := by
    unfold ixN
    rw [if_pos (by (first | lia | omega)), if_pos (by (first | lia | omega))]; simp
  unfold atI; rw [e]; exact h
/-! ### what may be subscripted -/
/-- what stands as an index of a plain subscript -/
def PlainIx (b : Expr) : Prop := ∀ o i, subscripted b false o i = operate [o, i] (getItem o i)
/-- a subscript by values -/
def IxR (X : Cx) (r : R2) : Prop :=
  ∀ (value slice : Expr) (pins : List (Addr × Obj)) (s : Shared) (σ : St) (H : Hp) (x y : V) (v u : Value) (Q : VK), Inv X pins σ H s → RelV x v → RelV y u → r x y H Q →
    subscripted slice false v u = operate [v, u] (getItem v u) → wpAny (model X.prog X.w) X.A (subscriptTail value slice v u) (EP X pins σ Q) X.xe s
/-- a call of a builtin's method by values: the receiver, the arguments -/
def MtR (X : Cx) (id : String) (r : V → List V → Hp → VK → Prop) : Prop :=
  ∀ (pins : List (Addr × Obj)) (s : Shared) (σ : St) (H : Hp) (x : V) (xs : List V) (v : Value) (us : List Value) (Q : VK), Inv X pins σ H s → RelV x v → Vals xs us → r x xs H Q →
    wpAny (model X.prog X.w) X.A (call (.builtin id) (v :: us)) (EP X pins σ Q) X.xe s
section
variable {X : Cx} {a b : Expr} {ta tb : TE} {pos : Pos}
/-- a[b] -/
theorem pe_ix {r : R2} (hr : IxR X r) (ha : PE X a ta) (hb : PE X b tb) (hs : PlainIx b) : PE X (.Subscript a b pos) (tOp r ta tb) := by
  intro pins s σ H Q I h
  exact Subscript_ (binT ha hb I h fun v u s2 x y H2 I2 rx ry q => hr a b pins s2 σ H2 x y v u Q I2 rx ry q (hs _ _))

inductive rIxLI (K : PySem.W.Frag) (x y : V) (H : Hp) (Q : VK) : Prop
  | mk (p : Addr) (xs : List V) (i : Int) (v : V) : (x = .ref p) → (y = .int i) → (SqL K H p xs) → (atI xs i = some v) → (Q v H) → rIxLI K x y H Q
def rIxL (K : PySem.W.Frag) : R2 := fun x y H Q => rIxLI K x y H Q
inductive rIxTI (K : PySem.W.Frag) (x y : V) (H : Hp) (Q : VK) : Prop
  | mk (p : Addr) (xs : List V) (i : Int) (v : V) : (x = .ref p) → (y = .int i) → (SqT K H p xs) → (atI xs i = some v) → (Q v H) → rIxTI K x y H Q
def rIxT (K : PySem.W.Frag) : R2 := fun x y H Q => rIxTI K x y H Q
theorem ix_list : IxR X (rIxL X.K) := by
  intro value slice pins s σ H x y v u Q I rx ry h hs
  obtain ⟨p, xs, i, z, rfl, rfl, hq, he, q⟩ := h
  cases rx
  obtain ⟨t, rfl⟩ := ry
  obtain ⟨its, r, pl, hz⟩ := I.list hq
  obtain ⟨j, h1, h2, h3, h4, h5⟩ := atI_get he
  obtain ⟨w, ew, rw'⟩ := r.get h2
  have hl := r.length
  have hn := line63
  have fin : EP X pins σ Q w s := ⟨z, H, I, rw', q⟩
  by_cases h0 : 0 ≤ i
  · have hj : i.toNat = j := by
      rw [seqIndex_of h0 h5] at h1
      exact Option.some.inj h1
    exact item_listR pl.isList h0 (by (first | lia | omega)) (by rw [hj]; simpa using ew) fin hs
  · have hj : (i + (its.toArray.size : Int)).toNat = j := by
      rw [seqIndex_neg (by (first | lia | omega)) h4] at h1
      rw [List.size_toArray, ← hl]
      exact Option.some.inj h1
    exact subscriptTail_builtinR (x := w) pl.isList.typeIs slot_list_getitem.lookup
      (wpAny_getItem_list_neg (Q := fun r s' => r = w ∧ EP X pins σ Q r s') pl.isList (by (first | lia | omega)) (by rw [List.size_toArray] <;> (first | lia | omega)) (by (first | lia | omega)) (by rw [hj]; simpa using ew) ⟨rfl, fin⟩) hs
theorem ix_tup : IxR X (rIxT X.K) := by
  intro value slice pins s σ H x y v u Q I rx ry h hs
  obtain ⟨p, xs, i, z, rfl, rfl, hq, he, q⟩ := h
  cases rx
  obtain ⟨t, rfl⟩ := ry
  obtain ⟨its, r, pl, hz⟩ := I.tuple hq
  obtain ⟨j, h1, h2, h3, h4, h5⟩ := atI_get he
  obtain ⟨w, ew, rw'⟩ := r.get h2
  have hl := r.length
  have hn := line63
  have fin : EP X pins σ Q w s := ⟨z, H, I, rw', q⟩
  exact subscriptTail_builtinR (x := w) pl.typeIs slot_tuple_getitem.lookup
    (getItem_tuple (j := j) (Q := fun r s' => r = w ∧ EP X pins σ Q r s') pl (by (first | lia | omega)) (by (first | lia | omega)) (by rw [List.size_toArray, ← hl]; exact h1) (by simpa using ew) ⟨rfl, fin⟩) hs
/-! ### xs[i] = v, any sign -/
/-! ### slices -/
theorem slice_bounds (lo hi : Option Int) (n : Nat) : (sliceBounds lo hi none n).1 = ((HT.sIx n 0 lo : Nat) : Int) ∧ (sliceBounds lo hi none n).2.1 = ((HT.sIx n n hi : Nat) : Int) ∧ (sliceBounds lo hi none n).2.2 = 1 := by
  refine ⟨?_, ?_, rfl⟩
  · cases lo with
    | none => simp [sliceBounds, HT.sIx]
    | some i =>
      simp only [sliceBounds, HT.sIx, Option.getD_none, show (1 : Int) > 0 by decide, if_true]
      by_cases h : i < 0
      · simp only [h, if_true] <;> (first | lia | omega)
      · simp only [h, if_false] <;> (first | lia | omega)
  · cases hi with
    | none => simp [sliceBounds, HT.sIx]
    | some i =>
      simp only [sliceBounds, HT.sIx, Option.getD_none, show (1 : Int) > 0 by decide, if_true]
      by_cases h : i < 0
      · simp only [h, if_true] <;> (first | lia | omega)
      · simp only [h, if_false] <;> (first | lia | omega)
theorem slicePick_cut (its : List Value) (lo hi : Option Int) : slicePick its.toArray lo hi none = ((its.drop (HT.sIx its.length 0 lo)).take (HT.sIx its.length its.length hi - HT.sIx its.length 0 lo)).toArray := by
  obtain ⟨h1, h2, h3⟩ := slice_bounds lo hi its.toArray.size
  unfold slicePick
  rw [h1, h2, h3]
  simp only [sliceRange_one, pick_run, List.size_toArray] <;> rfl
/-- xs[lo:hi] of a list: a new list -/
def rSlL (K : PySem.W.Frag) : V → Option Int → Option Int → Hp → VK → Prop := fun x lo hi H Q => ∃ a xs, x = .ref a ∧ SqL K H a xs ∧ ∀ p, H p = none → Q (.ref p) (upd H p (.lst (cutV xs lo hi)))
theorem sl_list : SlR X (rSlL X.K) := by
  intro pins s σ H x v vl vu lo hi sl Q I rx hs pl pu h
  obtain ⟨a, xs, rfl, hx, q⟩ := h
  cases rx
  obtain ⟨its, r, ht, hz⟩ := I.list hx
  have hlen := r.length
  refine ⟨"list", _, slot_list_getitem.lookup, ht.isList.typeIs, ?_⟩
  refine wpAny_getItem_list_slice ht.isList hs pl pu .none (by simp) ?_ (by rw [List.size_toArray] <;> (first | lia | omega))
  rw [slicePick_cut, ← hlen]
  refine ⟨.ref s.heap.objs.size, _, I.laid (t' := s.toks) (o := .lst (cutV xs lo hi)) (fun b ob q => Heap.get?_push_of_some _ q) (Nat.le_refl _) ?_, rfl, q _ (I.hok.fresh (Nat.le_refl _))⟩
  exact ⟨Nat.le_trans (cutV_length xs lo hi) hz, _, 0, (r.drop (HT.sIx xs.length 0 lo)).take (HT.sIx xs.length xs.length hi - HT.sIx xs.length 0 lo), Heap.get?_push_size _ rfl⟩

/-! ### in, not in: flat items -/
def flatV : V → Bool
  | .non => true
  | .bl _ => true
  | .int _ => true
  | .str _ => true
  | _ => false
/-- == of flat values -/
def eqV : V → V → Bool
  | .non, .non => true
  | .bl a, .bl b => a == b
  | .bl a, .int b => (if a then 1 else 0) == b
  | .int a, .bl b => a == (if b then 1 else 0)
  | .int a, .int b => a == b
  | .str a, .str b => a == b
  | _, _ => false
theorem eqAt_V {A : Around} {s : Shared} {y x : V} {u v : Value} (ry : RelV y u) (rx : RelV x v) (fy : flatV y = true) (fx : flatV x = true) : SeqAt.EqAt A s u v (eqV y x) := by
  cases y with
  | non =>
    cases ry
    cases x with
    | non => cases rx; exact SeqAt.EqAt.same _
    | bl b => cases rx; exact SeqAt.EqAt.none_bool b
    | int b => obtain ⟨t, rfl⟩ := rx; exact SeqAt.EqAt.none_int b t
    | str b => obtain ⟨t, rfl⟩ := rx; exact SeqAt.EqAt.none_str b t
    | _ => exact absurd (show false = true from fx) Bool.false_ne_true
  | bl a =>
    cases ry
    cases x with
    | non => cases rx; exact SeqAt.EqAt.bool_none a
    | bl b => cases rx; exact SeqAt.EqAt.bool_bool a b
    | int b => obtain ⟨t, rfl⟩ := rx; exact SeqAt.EqAt.bool_int a b t
    | str b => obtain ⟨t, rfl⟩ := rx; exact SeqAt.EqAt.bool_str a b t
    | _ => exact absurd (show false = true from fx) Bool.false_ne_true
  | int a =>
    obtain ⟨t', rfl⟩ := ry
    cases x with
    | non => cases rx; exact SeqAt.EqAt.int_none a t'
    | bl b => cases rx; exact SeqAt.EqAt.int_bool a t' b
    | int b => obtain ⟨t, rfl⟩ := rx; exact SeqAt.EqAt.int_int a t' b t
    | str b => obtain ⟨t, rfl⟩ := rx; exact SeqAt.EqAt.int_str a t' b t
    | _ => exact absurd (show false = true from fx) Bool.false_ne_true
  | str a =>
    obtain ⟨t', rfl⟩ := ry
    cases x with
    | non => cases rx; exact SeqAt.EqAt.str_none a t'
    | bl b => cases rx; exact SeqAt.EqAt.str_bool a t' b
    | int b => obtain ⟨t, rfl⟩ := rx; exact SeqAt.EqAt.str_int a t' b t
    | str b => obtain ⟨t, rfl⟩ := rx; exact SeqAt.EqAt.str_str a t' b t
    | _ => exact absurd (show false = true from fx) Bool.false_ne_true
  | _ => exact absurd (show false = true from fy) Bool.false_ne_true
/-- the items' answers, read off the values (a value's own answer does not lean on its token) -/
def eqU (x : V) (u : Value) : Bool := match u with
  | .none => eqV .non x
  | .bool b => eqV (.bl b) x
  | .int i _ => eqV (.int i) x
  | .str z _ => eqV (.str z) x
  | _ => false
theorem eqU_of {x y : V} {u : Value} (r : RelV y u) (f : flatV y = true) : eqU x u = eqV y x := by
  cases y with
  | non => cases r; rfl
  | bl b => cases r; rfl
  | int i => obtain ⟨t, rfl⟩ := r; rfl
  | str z => obtain ⟨t, rfl⟩ := r; rfl
  | _ => exact absurd (show false = true from f) Bool.false_ne_true
theorem any_eqU {x : V} : ∀ {xs : List V} {us : List Value}, Vals xs us → xs.all flatV = true → us.any (eqU x) = xs.any fun y => eqV y x
  | _, _, .nil, _ => rfl
  | y :: xs, u :: us, .cons r t, f => by
    rw [List.all_cons, Bool.and_eq_true] at f
    rw [List.any_cons, List.any_cons, eqU_of r f.1, any_eqU t f.2]
theorem mem_eqAt {A : Around} {s : Shared} {x : V} {v : Value} (rx : RelV x v) (fx : flatV x = true) : ∀ {xs : List V} {us : List Value}, Vals xs us → xs.all flatV = true → ∀ u ∈ us, SeqAt.EqAt A s u v (eqU x u)
  | _, _, .nil, _ => fun u hu => by cases hu
  | y :: xs, u :: us, .cons r t, f => fun u' hu => by
    rw [List.all_cons, Bool.and_eq_true] at f
    rcases List.mem_cons.mp hu with rfl | hu
    · rw [eqU_of r f.1]; exact eqAt_V r rx f.1 fx
    · exact mem_eqAt rx fx t f.2 u' hu
def inV (x : V) (xs : List V) : Bool := xs.any fun y => eqV y x
/-- x in a list or tuple of flat items -/
inductive rInI (K : PySem.W.Frag) (neg : Bool) (x y : V) (H : Hp) (Q : VK) : Prop
  | mk (p : Addr) (xs : List V) : (y = .ref p) → (SqL K H p xs ∨ SqT K H p xs) → (flatV x = true) → (xs.all flatV = true) → (Q (.bl (if neg then !inV x xs else inV x xs)) H) → rInI K neg x y H Q
def rIn (K : PySem.W.Frag) (neg : Bool) : R2 := fun x y H Q => rInI K neg x y H Q
theorem op_in_seq : OpR X (compareOp .In) (rIn X.K false) := by
  intro pins s σ H x y v u Q I rx ry h
  obtain ⟨p, xs, rfl, hq, fx, fs, q⟩ := h
  cases ry
  rcases hq with hq | hq
  · obtain ⟨its, r, pl, hz⟩ := I.list hq
    refine SeqAt.in_listAt (eqU x) pl.isList (fun w hw => mem_eqAt rx fx r fs w (by simpa using hw)) ⟨.bl _, H, I, rfl, ?_⟩
    rw [show its.toArray.any (eqU x) = its.any (eqU x) by simp, any_eqU r fs]
    exact q
  · obtain ⟨its, r, pl, hz⟩ := I.tuple hq
    refine SeqAt.in_tupleAt (eqU x) pl (fun w hw => mem_eqAt rx fx r fs w (by simpa using hw)) ⟨.bl _, H, I, rfl, ?_⟩
    rw [show its.toArray.any (eqU x) = its.any (eqU x) by simp, any_eqU r fs]
    exact q
/-! ### len, list(x), tuple(x) of any list or tuple that is read -/
theorem call_len_seq : CallR X (.builtin "len") (fun xs H Q => ∃ p ys, xs = [.ref p] ∧ (SqL X.K H p ys ∨ SqT X.K H p ys) ∧ Q (.int ys.length) H) := by
  intro pins s σ H xs us Q I r h
  obtain ⟨p, ys, rfl, hq, q⟩ := h
  obtain ⟨u, rfl, rx⟩ := vals1 r
  cases rx
  have hn := line63
  rcases hq with hq | hq
  · obtain ⟨its, r', pl, hz⟩ := I.list hq
    have hlen := r'.length
    exact Calls.call_len_list pl.isList (by simp only [List.size_toArray] <;> (first | lia | omega)) ⟨.int ys.length, H, I.tok _, ⟨s.toks + 1, by rw [List.size_toArray, hlen]⟩, q⟩
  · obtain ⟨its, r', pl, hz⟩ := I.tuple hq
    have hlen := r'.length
    exact len_tuple pl (by simp only [List.size_toArray] <;> (first | lia | omega)) ⟨.int ys.length, H, I.tok _, ⟨s.toks + 1, by rw [List.size_toArray, hlen]⟩, q⟩
theorem call_list_of : CallR X (.type "list") (fun xs H Q => ∃ p ys, xs = [.ref p] ∧ (SqL X.K H p ys ∨ SqT X.K H p ys) ∧ ∀ l, H l = none → Q (.ref l) (upd H l (.lst ys))) := by
  intro pins s σ H xs us Q I r h
  obtain ⟨p, ys, rfl, hq, q⟩ := h
  obtain ⟨u, rfl, rx⟩ := vals1 r
  cases rx
  have fin : ∀ (its : List Value), Vals ys its → ys.length ≤ sizeLine → ∀ (h' : Heap) (c' : Nat), (∀ b o', s.heap.get? b = some o' → h'.get? b = some o') →
      h'.get? s.heap.objs.size = some { cls := .type "list", dict := none, data := .seq its.toArray c', slots := #[] } → EP X pins σ Q (.ref s.heap.objs.size) { s with heap := h' } := fun its r' hz h' c' kp e =>
    ⟨.ref s.heap.objs.size, _, I.laid (t' := s.toks) kp (Nat.le_refl _) (show ObjOk X.prog X.w _ h' _ (.lst ys) from ⟨hz, its, c', r', e⟩), rfl, q _ (I.hok.fresh (Nat.le_refl _))⟩
  rcases hq with hq | hq
  · obtain ⟨its, r', pl, hz⟩ := I.list hq
    have hlen := r'.length
    obtain ⟨o, ho, hc, n, hd⟩ := pl.isList
    exact call_list_seq p (.inl rfl) ho hc hd (fun h' c' kp e => fin its r' hz h' c' kp e) (by simp only [List.size_toArray] <;> (first | lia | omega))
  · obtain ⟨its, r', pl, hz⟩ := I.tuple hq
    have hlen := r'.length
    obtain ⟨o, ho, hc, n, hd⟩ := pl
    exact call_list_seq p (.inr rfl) ho hc hd (fun h' c' kp e => fin its r' hz h' c' kp e) (by simp only [List.size_toArray] <;> (first | lia | omega))
/-! ### the call of a builtin's method: o.m(..) -/
/-- the value is of that builtin type -/
def tyV (K : PySem.W.Frag) (T : String) (x : V) (H : Hp) : Prop := match x with
  | .str _ => T = "str"
  | .int _ => T = "int"
  | .ref p => (T = "list" ∧ ∃ xs, SqL K H p xs) ∨ (T = "tuple" ∧ ∃ o, K.lookup p = some o ∧ o.cls = .type "tuple" ∧ o.dict = none) ∨
      (T = "dict" ∧ ((∃ kvs, H p = some (.dK kvs)) ∨ ∃ kvs, H p = some (.dT kvs))) ∨ (T = "set" ∧ ∃ S n, H p = some (.set S n))
  | _ => False
theorem tyV_is {pins : List (Addr × Obj)} {σ : St} {H : Hp} {s : Shared} {T : String} {x : V} {v : Value} (I : Inv X pins σ H s) (r : RelV x v) (ty : tyV X.K T x H) :
    s.TypeIs v T ∧ ∀ a, v = .ref a → ∃ ob, s.heap.get? a = some ob ∧ ob.dict = none := by
  cases x with
  | str z =>
    obtain ⟨t, rfl⟩ := r
    cases (show T = "str" from ty)
    exact ⟨typeIs_str s z t, fun _ e => nomatch e⟩
  | int i =>
    obtain ⟨t, rfl⟩ := r
    cases (show T = "int" from ty)
    exact ⟨typeIs_int s i t, fun _ e => nomatch e⟩
  | ref p =>
    cases r
    rcases ty with ⟨rfl, xs, hq⟩ | ⟨rfl, o, hk, hc, hd⟩ | ⟨rfl, hk⟩ | ⟨rfl, S, n, hk⟩
    · obtain ⟨its, _, pl, _⟩ := I.list hq
      refine ⟨pl.isList.typeIs, fun a e => ?_⟩
      cases e
      obtain ⟨o, n, e, c, hd, _⟩ := pl
      exact ⟨o, e, hd⟩
    · refine ⟨⟨o, I.kIn p o hk, hc⟩, fun a e => ?_⟩
      cases e
      exact ⟨o, I.kIn _ o hk, hd⟩
    · have z : ∃ o, s.heap.get? p = some o ∧ o.ExactDict := by
        rcases hk with ⟨kvs, hk⟩ | ⟨kvs, hk⟩
        · obtain ⟨_, _, _, _, o, _, _, e, ex, _⟩ := I.hok p _ hk
          exact ⟨o, e, ex⟩
        · obtain ⟨_, _, _, _, o, _, _, e, ex, _⟩ := I.hok p _ hk
          exact ⟨o, e, ex⟩
      obtain ⟨o, e, ex⟩ := z
      refine ⟨⟨o, e, ex.1⟩, fun a e2 => ?_⟩
      cases e2
      exact ⟨o, e, ex.2.1⟩
    · obtain ⟨o, _, _, _, e, ex, _⟩ := I.hok p _ hk
      refine ⟨⟨o, e, ex.1⟩, fun a e2 => ?_⟩
      cases e2
      exact ⟨o, e, ex.2.1⟩
  | _ => exact False.elim ty
def tBM0 (K : PySem.W.Frag) (T : String) (r : V → List V → Hp → VK → Prop) (to : TE) : TE := fun σ H Q => to σ H fun x H1 => tyV K T x H1 ∧ r x [] H1 Q
def tBM (K : PySem.W.Frag) (T : String) (r : V → List V → Hp → VK → Prop) (to : TE) (t : TA) : TE := fun σ H Q => to σ H fun x H1 => tyV K T x H1 ∧ t σ H1 fun xs H2 => r x xs H2 Q
variable {o e : Expr} {es : List Expr} {to : TE} {t : TA} {name : Str} {apos cpos : Pos} {T id : String} {r : V → List V → Hp → VK → Prop}
theorem pe_bm0 (pa : PlainAttrs T) (slot : Slot T name id) (hty : typeOf (.builtin id) = pure (.type "method_descriptor")) (hm : MtR X id r) (ho : PE X o to)
    (hbase : attributeBase o name X.env (eval o X.env) = eval o X.env := by rfl) (hline : (apos.endLine == cpos.line) = true := by rfl) : PE X (.Call (.Attribute o name apos) [] [] cpos) (tBM0 X.K T r to) := by
  intro pins s σ H Q I h
  refine wpAny_Call_method0_late hbase hline (thn (ho pins s σ H _ I h) fun v s1 ⟨x, H1, I1, r1, ty, q1⟩ => ?_)
  obtain ⟨h1, h2⟩ := tyV_is I1 r1 ty
  exact ⟨T, id, pa, slot, hty, h1, h2, Calls.callWith_builtin rfl (PySem.evalArgs_none (hm pins s1 σ H1 x [] v [] Q I1 r1 .nil q1))⟩
theorem pe_bm (pa : PlainAttrs T) (slot : Slot T name id) (hty : typeOf (.builtin id) = pure (.type "method_descriptor")) (hm : MtR X id r) (ho : PE X o to) (ha : PA X (e :: es) t)
    (hbase : attributeBase o name X.env (eval o X.env) = eval o X.env := by rfl)
    (hfew : ((backTo cpos (starEach (e :: es) X.env)).all (fun x => !x.1) && (backToKw cpos (keywordEach [] X.env)).all (fun x => x.1.isSome)
      && decide ((e :: es).length + ([] : List Keyword).length + (if ([] : List Keyword).isEmpty then 0 else 1) < 30)) = true := by rfl)
    (hline : (apos.endLine == cpos.line) = true := by rfl) (hs : starEach (e :: es) X.env = (false, eval e X.env) :: starEach es X.env := by rfl) (hplain : (backTo cpos (starEach es X.env)).any (·.1) = false := by rfl) :
    PE X (.Call (.Attribute o name apos) (e :: es) [] cpos) (tBM X.K T r to t) := by
  intro pins s σ H Q I h
  refine wpAny_Call_method_late hbase hfew hline rfl (thn (ho pins s σ H _ I h) fun v s1 ⟨x, H1, I1, r1, ty, q1⟩ => ?_)
  obtain ⟨h1, h2⟩ := tyV_is I1 r1 ty
  refine ⟨T, id, pa, slot, hty, h1, h2, ?_⟩
  have hA := ha cpos pins s1 σ H1 _ I1 q1
  rw [hs] at hA ⊢
  refine Calls.callWith_builtin (by show (false || (backTo cpos (starEach es X.env)).any (·.1)) = false; rw [hplain] <;> rfl) (Calls.evalArgs_plain ?_)
  exact thn hA fun us s2 zz53 => ap_elim zz53 fun vs H2 I2 r2 q2 => hm pins s2 σ H2 x vs v us Q I2 r1 r2 q2
/- xs.append(e), list.index on a module's tuple .. are MtR facts of 06m -/
end
end L2

namespace L2
open PySem PySem.Spec PyProof.Rows

def MtM (X : Cx) (id : String) (r : V → List V → Hp → VK → Prop) : Prop :=
  ∀ (pins : List (Addr × Obj)) (s : Shared) (σ : St) (H : Hp) (x : V) (xs : List V) (v : Value) (us : List Value) (Q : VK), Inv X pins σ H s → RelV x v → Vals xs us → r x xs H Q →
    wpAny (model X.prog X.w) X.A (call (.builtin id) (v :: us)) (EP X pins σ Q) X.xe s

/-! ### lists of values -/
theorem Vals.one : ∀ {x : V} {us : List Value}, Vals [x] us → ∃ u, us = [u] ∧ RelV x u
  | _, _, .cons r .nil => ⟨_, rfl, r⟩
theorem Vals.zero : ∀ {us : List Value}, Vals [] us → us = []
  | _, .nil => rfl
theorem Vals.reverse {xs : List V} {us : List Value} (h : Vals xs us) : Vals xs.reverse us.reverse := by
  induction h with
  | nil => exact .nil
  | cons r t ih => rw [List.reverse_cons, List.reverse_cons]; exact Vals.append ih (.cons r .nil)
section
variable {X : Cx} {pins : List (Addr × Obj)} {σ : St} {H : Hp} {s : Shared} {l b : Addr} {xs ys zs : List V}

/-! ### the two steps: a tracked list is rewritten, a new list is laid -/
theorem Inv.lset {its its' : List Value} {n : Nat} {f : Array Value → Array Value} {t' : Nat} (I : Inv X pins σ H s) (hH : H l = some (.lst xs))
    (e : s.heap.get? l = some { cls := .type "list", data := .seq its.toArray n }) (hf : f its.toArray = its'.toArray) (hv : Vals ys its') (hz : ys.length ≤ sizeLine) :
    Inv X pins σ (upd H l (.lst ys)) { s with heap := s.heap.update l (Obj.mapSeq f), toks := t' } := by
  have q := PySem.IsL.update e f
  rw [hf] at q
  refine I.write (x := l) (e := l) (by rw [hH]; exact trivial) (.inl rfl) (fun b' u hb hu => (Heap.get?_update_other s.heap (Obj.mapSeq f) (Ne.symm hb)).trans hu) ⟨_, q⟩ ?_
  exact ⟨hz, its', _, hv, q⟩
theorem Inv.lnew {its : List Value} {t' : Nat} (I : Inv X pins σ H s) (hv : Vals ys its) (hz : ys.length ≤ sizeLine) :
    Inv X pins σ (upd H s.heap.objs.size (.lst ys)) { s with heap := s.heap.push { cls := .type "list", data := .seq its.toArray }, toks := t' } :=
  I.laid (fun _ _ q => Heap.get?_push_of_some _ q) (Nat.le_refl _) ⟨hz, its, 0, hv, Heap.get?_push_size _ rfl⟩
theorem Inv.fresh (I : Inv X pins σ H s) : H s.heap.objs.size = none := I.hok.fresh (Nat.le_refl _)
theorem Inv.lstM (I : Inv X pins σ H s) (hH : H l = some (.lst xs)) : xs.length ≤ sizeLine ∧ ∃ (its : List Value) (n : Nat), Vals xs its ∧ xs.length = its.length ∧ s.heap.get? l = some { cls := .type "list", data := .seq its.toArray n } := by
  obtain ⟨z, its, n, r, e⟩ := I.hok l _ hH
  exact ⟨z, its, n, r, r.length, e⟩

theorem notLongL {n : Nat} (h : n ≤ sizeLine) : Builtin.List.listTooLong n = false := by
  unfold Builtin.List.listTooLong
  exact decide_eq_false (by (first | lia | omega))
end

section
variable {X : Cx}

/-! ### methods -/
inductive rAppendI (x : V) (vs : List V) (H : Hp) (Q : VK) : Prop
  | mk (l : Addr) (xs : List V) (y : V) : (x = .ref l) → (vs = [y]) → (H l = some (.lst xs)) → (xs.length < sizeLine) → (Q .non (upd H l (.lst (xs ++ [y])))) → rAppendI x vs H Q
def rAppend : V → List V → Hp → VK → Prop := fun x vs H Q => rAppendI x vs H Q
theorem mt_append : MtM X "list.append" rAppend := by
  intro pins s σ H x vs v us Q I rx rv h
  obtain ⟨l, xs, y, rfl, rfl, hH, hz, q⟩ := h
  cases rx
  obtain ⟨u, rfl, ru⟩ := rv.one
  obtain ⟨z, its, n, r, hl, e⟩ := I.lstM hH
  refine call_meets F.slot_list_append ⟨_, e, rfl⟩ F.entry_list_append (F.args_list_append_2 _ _) (PySem.list_append l its.toArray n u (by rw [List.size_toArray]; (first | lia | omega))) ⟨e, ?_⟩
  refine ⟨.non, _, I.lset (its' := its ++ [u]) hH e (by simp) (r.append (.cons ru .nil)) ?_, rfl, q⟩
  rw [List.length_append, List.length_singleton]
  (first | lia | omega)

def rExtend : V → List V → Hp → VK → Prop := fun x vs H Q => ∃ l b xs zs, x = .ref l ∧ vs = [.ref b] ∧ H l = some (.lst xs) ∧ H b = some (.lst zs) ∧ xs.length + zs.length ≤ sizeLine ∧ Q .non (upd H l (.lst (xs ++ zs)))
theorem mt_extend : MtM X "list.extend" rExtend := by
  intro pins s σ H x vs v us Q I rx rv h
  obtain ⟨l, b, xs, zs, rfl, rfl, hH, hB, hz, q⟩ := h
  cases rx
  obtain ⟨u, rfl, ru⟩ := rv.one
  cases ru
  obtain ⟨z, its, n, r, hl, e⟩ := I.lstM hH
  obtain ⟨z2, its2, n2, r2, hl2, e2⟩ := I.lstM hB
  have hsz : its.toArray.size + its2.toArray.size ≤ sizeLine := by rw [List.size_toArray, List.size_toArray]; (first | lia | omega)
  have hlong : ¬ (!its.toArray.isEmpty && Builtin.List.listTooLong (its.toArray.size + its2.toArray.size)) = true := by
    rw [notLongL hsz, Bool.and_false]
    exact Bool.false_ne_true
  refine call_meets F.slot_list_extend ⟨_, e, rfl⟩ F.entry_list_extend (F.args_list_extend_2 _ _)
    (AutoSeq1.list_extend_list_list_0 l its.toArray n b its2.toArray n2 hlong (by rw [List.size_toArray]; (first | lia | omega)) (by (first | lia | omega))) ⟨e, e2, ?_⟩
  refine ⟨.non, _, I.lset (its' := its ++ its2) hH e (by simp) (r.append r2) ?_, rfl, q⟩
  rw [List.length_append]
  (first | lia | omega)

def rReverse : V → List V → Hp → VK → Prop := fun x vs H Q => ∃ l xs, x = .ref l ∧ vs = [] ∧ H l = some (.lst xs) ∧ Q .non (upd H l (.lst xs.reverse))
theorem mt_reverse : MtM X "list.reverse" rReverse := by
  intro pins s σ H x vs v us Q I rx rv h
  obtain ⟨l, xs, rfl, rfl, hH, q⟩ := h
  cases rx
  have hus := rv.zero
  subst hus
  obtain ⟨z, its, n, r, hl, e⟩ := I.lstM hH
  refine call_meets F.slot_list_reverse ⟨_, e, rfl⟩ F.entry_list_reverse (F.args_list_reverse_1 _) (AutoSeq1.list_reverse_list_0 l its.toArray n (by rw [List.size_toArray]; (first | lia | omega))) ⟨e, ?_⟩
  refine ⟨.non, _, I.lset (its' := its.reverse) hH e (by simp) r.reverse ?_, rfl, q⟩
  rw [List.length_reverse]
  (first | lia | omega)

/-! ### list + list, list += list, list * int -/
inductive rCatI (x y : V) (H : Hp) (Q : VK) : Prop
  | mk (l b : Addr) (xs zs : List V) : (x = .ref l) → (y = .ref b) → (H l = some (.lst xs)) → (H b = some (.lst zs)) → (xs.length + zs.length ≤ sizeLine) → (∀ p, H p = none → Q (.ref p) (upd H p (.lst (xs ++ zs)))) → rCatI x y H Q
def rCat : R2 := fun x y H Q => rCatI x y H Q
theorem op_cat : OpR X (binaryOp .Add) rCat := by
  intro pins s σ H x y v u Q I rx ry h
  obtain ⟨l, b, xs, zs, rfl, rfl, hH, hB, hz, q⟩ := h
  cases rx
  cases ry
  obtain ⟨z, its, n, r, hl, e⟩ := I.lstM hH
  obtain ⟨z2, its2, n2, r2, hl2, e2⟩ := I.lstM hB
  refine PySem.P.add_list e e2 ?_ (by rw [List.size_toArray, List.size_toArray]; (first | lia | omega))
  have ea : its.toArray ++ its2.toArray = (its ++ its2).toArray := by simp
  rw [ea]
  exact ⟨.ref _, _, I.lnew (t' := s.toks) (r.append r2) (by rw [List.length_append]; (first | lia | omega)), rfl, q _ I.fresh⟩
/-! ### del xs[i] -/
end

/-! ### xs[a:b] = ys -/
section
variable {prog : Program} {w : World} {A : Around} {E : Value → Shared → Prop} {s : Shared}
end

section
variable {X : Cx}
end
end L2

namespace Att
open PySem PySem.W PySem.Calls PyProof.Rows

/-! ### the script -/
theorem ints_of_wellAll {P : Params} {h : Heap} : ∀ (ns : List Int) (vs : List Value), WellAll P h vs (ns.map WData.int) → IntsAre vs ns := by
  intro ns
  induction ns with
  | nil =>
    intro vs w
    rw [List.map_nil] at w
    cases w
    exact .nil
  | cons n ns ih =>
    intro vs w
    rw [List.map_cons] at w
    cases w with
    | cons a b =>
      cases a
      exact .cons _ _ (ih _ b)

theorem script_of {l : OpenLaw} {n : Nat} (hn : l.most = some n) {P : Params} {h : Heap} {args : List WData} {vals : List Value}
    (hpre : l.row.toRowW.claim.pre args = true) (hwl : WellAll P h vals args) :
    ∃ a vs ns, vals = [Value.ref a] ∧ args = [WData.list (ns.map WData.int)] ∧ h.get? a = some { cls := .type "list", data := .seq vs.toArray } ∧ IntsAre vs ns ∧ ns.length ≤ n := by
  have hsh : WShape.hasAll [] args [.list .int] = true := (pre_splitW hpre).1
  have hc : l.pre.holds [] { args := args } = true := (pre_splitW hpre).2
  obtain ⟨d, r, rfl, h1, h2⟩ := hasAllW_cons hsh
  obtain rfl := hasAllW_nil h2
  obtain ⟨xs, rfl, h3⟩ := hasW_list h1
  obtain ⟨ns, rfl⟩ := items_int h3
  have hlen : ns.length ≤ n := by
    unfold OpenLaw.pre at hc
    have h4 : (WTm.not (.lt (.lit (.int (n : Int))) (.len (.arg 0)))).holds [] { args := [.list (ns.map .int)] } = true := by
      have h4 := (holds_andW hc).1
      rw [hn] at h4
      exact h4
    have h5 := condW_of h4 (w_not (w_lt w_lit (w_len_list (w_arg rfl))))
    rw [List.length_map] at h5
    refine Nat.le_of_not_lt fun q => ?_
    have q' : (n : Int) < ((ns.length : Nat) : Int) := by (first | lia | omega)
    first
      | (rw [decide_eq_true q'] at h5; exact absurd h5 (by decide))
      | (simp at h5; (first | lia | omega))
  cases hwl with
  | cons w1 w2 =>
    cases w2
    cases w1 with
    | list ho hall => exact ⟨_, _, ns, rfl, rfl, ho, ints_of_wellAll ns _ hall, hlen⟩

theorem post_true (l : OpenLaw) (args : List WData) : l.row.toRowW.claim.post args (.bool true) args = true :=
  postW_of (r := l.row.toRowW) (X := (true == true))
    (show WShape.has [] (.bool true) .bool = true by first | rfl | decide | simp [WShape.has, WShape.arms, WShape.armsAll])
    (show (WTm.eq .res (.lit (.bool true))).value [] { args := args, res := some (.bool true), after := args } = some (.bool (true == true)) from w_eq_bool (w_res rfl) w_lit) rfl

/-! ### the attachment: holds_open's last premise (the goal 'hc' behind k_head) from a wpAny of the law's body -/
/-- the same from a codeAny of the CALL (for a layer whose function contracts speak of calls) -/
theorem attach_call {l : OpenLaw} {n : Nat} {q : Program} {loose : List Str} {XP : (Str → Option Value) → Heap → Prop} {YP : World → Heap → Prop} {d : DefRec}
    (hn : l.most = some n) (hdf : d.params.defaults = [])
    (call : ∀ (w : World) (s₀ s₁ : Shared) (mg mb : Str → Option Value) (fa : Addr) (o : Obj) (pm cd doc : Value) (a : Addr) (vs : List Value) (ns : List Int),
      Ground q loose [] XP w s₀ mg mb s₁.heap → YP w s₁.heap →
      s₁.heap.get? fa = some o → o.data = .func (docDef d.name d.params d.body d.scope pm cd doc) → s₁.heap.CodeRec cd d.name → mg d.name = some (.ref fa) →
      s₁.heap.get? a = some { cls := .type "list", data := .seq vs.toArray } → IntsAre vs ns → ns.length ≤ n → s₁.gens = #[] →
      codeAny (model l.prog w) callerA (.call (.ref fa) ⟨[.ref a], []⟩) (fun r s' => r = .ok (.ret (.bool true)) ∧ OldK s₁.heap s'.heap ∧ s'.os = s₁.os ∧ AllBare s'.gens) s₁) :
    WalkO q loose XP YP l.row.toRowW d [] (fun f vs => PySem.call f vs) := by
  intro w s₀ s₁ mg mb G Y fa o pm cd doc dV kV ho hd hcd hD hmg hg args vals as hpre hlay hrd hwl hlo
  obtain rfl : dV = .none := Dflts.none hD hdf
  obtain rfl : kV = .none := Dflts.noKw hD
  obtain ⟨a, vs, ns, rfl, rfl, hobj, hints, hlen⟩ := script_of hn hpre hwl
  refine enter_call (codeAny_mono (call w s₀ s₁ mg mb fa o pm cd doc a vs ns G Y ho (fd_plain hd) hcd hmg hobj hints hlen hg) fun r s' hq => ?_)
  obtain ⟨rfl, h2, h3, h4⟩ := hq
  exact ⟨.inl ⟨.bool true, .bool true, [], rfl, fun _ => rfl, .bool true, post_true l _, fun _ => ⟨List.Pairwise.nil, fun _ hm => (nomatch hm)⟩⟩, h2, h3, h4⟩

/-! ### rules over ANY heap (no ledger) from facts about the written part K: the library's own take a ledger (News) for what they write -/
section
variable {prog : Program} {w : World} {A : Around} {E : Value → Shared → Prop} {s : Shared} {K : Frag}

/-! the whole heap as the ledger: makes every rule that writes through a ledger a rule over any heap -/
end
end Att

namespace L2
open PySem PySem.Spec PyProof.Rows

theorem vals_ints : ∀ {vs : List Value} {ns : List Int}, IntsAre vs ns → Vals (ns.map V.int) vs
  | _, _, .nil => .nil
  | _, _, .cons n t h => .cons ⟨t, rfl⟩ (vals_ints h)

/-- nothing is tracked but the script, known to the object (or it is an object of the module) -/
def Only (H : Hp) : Prop := ∀ b, H b = none ∨ ∃ o xs, H b = some (.frz o (.lst xs))

/-- THE HEAD: the law's promise, at the heap behind the top. F, the promise of the law's def, may use that base is part of the heap (so K.In base, base.Ns mainGlobals mg stand in Mod) -/
theorem law_call {P : Program} {w : World} {K : PySem.W.Frag} {mg mb : Str → Option Value} {CX : CXT} {k : Nat} {fa a : Addr} {fd : FuncData} {x : Str} {sp : Sp} {s₁ : Shared} {vs : List Value} {ns : List Int}
    (KX : K.In s₁.heap) (hns : s₁.heap.Ns mainGlobals mg) (hb : s₁.heap.Ns builtinsNs mb) (hbb : ∀ x : Str, x ≠ "__name__" → mb x = bootBuiltins x) (hlim : s₁.heap.NoLimit) (hg : s₁.gens = #[])
    (ha : s₁.heap.get? a = some { cls := .type "list", data := .seq vs.toArray }) (hi : IntsAre vs ns) (hl : ns.length ≤ sizeLine) (hr : Room k callerA)
    (F : ∀ base : Heap, K.In base → base.Ns mainGlobals mg → FnOk P w K mg base CX k fa fd [x] sp) (hbind : ∀ (s : Shared) (u : Value), BindsTo s fd ⟨[u], []⟩ [(x, u)])
    (hsp : ∀ H : Hp, Only H → SqL K H a (ns.map V.int) → sp [.ref a] H (fun v _ => v = .bl true) fun _ _ _ => False)
    (hCX : ∀ H e s', CX [] H s₁ (fun _ _ _ => False) e s' → False) :
    codeAny (model P w) callerA (.call (.ref fa) ⟨[.ref a], []⟩) (fun r s' => r = .ok (.ret (.bool true)) ∧ OldK s₁.heap s'.heap ∧ s'.os = s₁.os ∧ AllBare s'.gens) s₁ := by
  have rv := vals_ints hi
  have lenV := hi.length
  -- from an abstract heap in which nothing but the script may be tracked
  have core : ∀ H : Hp, Only H → SqL K H a (ns.map V.int) → HOk P w H s₁.heap → (∀ b, H b ≠ none → b = a) → (H a ≠ none → K.lookup a = none) →
      codeAny (model P w) callerA (.call (.ref fa) ⟨[.ref a], []⟩) (fun r s' => r = .ok (.ret (.bool true)) ∧ OldK s₁.heap s'.heap ∧ s'.os = s₁.os ∧ AllBare s'.gens) s₁ := by
    intro H hO hS hok hA hK
    have base_of : ∀ {b : Addr} {o : Obj}, s₁.heap.get? b = some o → H b = none → (hidT s₁.heap H).get? b = some o := fun e n => hidT_get e n
    have noA : ∀ {b : Addr} {o : Obj} {es : Array DictEntry} {ep : Nat}, s₁.heap.get? b = some o → o.data = .dict es ep → H b = none := fun {b o es ep} e d => by
      cases q : H b with
      | none => rfl
      | some u =>
        have e' : b = a := hA b (by rw [q]; simp)
        subst e'
        rw [ha] at e; cases e
        have d' : Data.seq vs.toArray _ = Data.dict es ep := d
        cases d'
    have nsK : ∀ {b : Addr} {m : Str → Option Value}, s₁.heap.Ns b m → (hidT s₁.heap H).Ns b m := fun {b m} ⟨o, es, ep, e, d, r⟩ => ⟨o, es, ep, base_of e (noA e d), d, r⟩
    have hKb : K.In (hidT s₁.heap H) := fun b o e => base_of (KX b o e) (by
      cases q : H b with
      | none => rfl
      | some u =>
        have e' : b = a := hA b (by rw [q]; simp)
        subst e'
        rw [hK (by rw [q]; simp)] at e; cases e)
    have hM : Mod K mg (hidT s₁.heap H) := ⟨hKb, nsK hns, ⟨mb, nsK hb, hbb⟩, let ⟨mc, h1, h2⟩ := hlim; ⟨mc, nsK h1, h2⟩⟩
    have e0 : Env0 P w K mg (hidT s₁.heap H) callerA [] s₁ H := ⟨rfl, hM, fun b o e => of_hidT e, Nat.le_of_eq (hidT_size _ _), trivial, fun b hb => absurd (show b ∈ ([] : List Addr) from hb) (by simp), hok, .of_eq hg⟩
    refine codeAny_mono ((F _ hKb (nsK hns)).run callerA [] s₁ H ⟨[.ref a], []⟩ [.ref a] [.ref a] _ _ hr e0 (hbind s₁ (.ref a)) (.cons rfl .nil) (hsp H hO hS)) fun r s' h => ?_
    cases r with
    | error e => exact (hCX H e s' h).elim
    | ok fl =>
      cases fl with
      | next => exact False.elim h
      | brk => exact False.elim h
      | cont => exact False.elim h
      | ret u =>
        obtain ⟨v, H', os, bare, un, hok', r', q⟩ := h
        have q' : v = .bl true := q
        subst q'
        obtain rfl : u = Value.bool true := r'
        refine ⟨rfl, OldK.of_keep fun b o e => ?_, os, bare⟩
        cases q : H b with
        | none => exact un.keep b o e q (by intro z; exact absurd (show b ∈ ([] : List Addr) from z) (by simp)) (by simp)
        | some u =>
          rcases hO b with z | ⟨ob, xs, z⟩
          · rw [q] at z; cases z
          · have z2 := un.frzs b ob _ z
            obtain ⟨e1, _⟩ := hok b _ z
            obtain ⟨e2, _⟩ := hok' b _ z2
            rw [e] at e1; cases e1
            exact e2
  cases hk : K.lookup a with
  | some o =>
    -- the script is one of the module's own objects
    have e := KX a o hk
    rw [ha] at e
    cases e
    refine core (fun _ => none) (fun _ => .inl rfl) (.inr ⟨_, vs.toArray, _, hk, rfl, rfl, rfl, by rw [List.size_toArray, lenV]; exact hl, by simpa using rv⟩) (fun b u z => by have z' : (none : Option HO) = some u := z; cases z') (fun b z => absurd rfl z) fun z => absurd rfl z
  | none =>
    refine core (fun b => if b = a then some (.frz { cls := .type "list", data := .seq vs.toArray } (.lst (ns.map V.int))) else none) (fun b => ?_) (.inl (.inr ⟨{ cls := .type "list", data := .seq vs.toArray }, if_pos rfl⟩)) (fun b u z => ?_) (fun b z => ?_) fun _ => hk
    · by_cases hb : b = a
      · exact .inr ⟨_, _, if_pos hb⟩
      · exact .inl (if_neg hb)
    · by_cases hb : b = a
      · have z' := (if_pos hb).symm.trans z
        cases z'
        subst hb
        exact ⟨ha, by rw [List.length_map]; exact hl, vs, _, rv, ha⟩
      · have z' := (if_neg hb).symm.trans z
        cases z'
    · by_cases hb : b = a
      · exact hb
      · exact absurd (if_neg hb) z
end L2

namespace L2
open PySem PySem.Spec PyProof.Rows

/-- the goal that k_head leaves (case hc), from the law's promise. F gives the function object fd (K's own) once, then the promise over every base -/
theorem walk_of {l : PySem.W.OpenLaw} {n k : Nat} {q : Program} {loose : List Str} {XP : (Str → Option Value) → Heap → Prop} {YP : World → Heap → Prop} {d : DefRec} {K : Params → PySem.W.Frag} {CX : World → CXT} {sp : World → Sp} {x : Str}
    (hn : l.most = some n) (hn2 : n ≤ sizeLine) (hdf : d.params.defaults = []) (hr : Room k callerA)
    (hY : ∀ (w : World) (h : Heap), YP w h → (K w.params).In h)
    (F : ∀ (w : World) (mg : Str → Option Value) (fa : Addr) (h : Heap), (K w.params).In h → h.Ns mainGlobals mg → mg d.name = some (.ref fa) →
      ∃ fd : FuncData, (∀ (s : Shared) (u : Value), BindsTo s fd ⟨[u], []⟩ [(x, u)]) ∧
        ∀ base : Heap, (K w.params).In base → base.Ns mainGlobals mg → FnOk l.prog w (K w.params) mg base (CX w) k fa fd [x] (sp w))
    (hsp : ∀ (w : World) (H : Hp) (a : Addr) (ns : List Int), ns.length ≤ n → Only H → SqL (K w.params) H a (ns.map V.int) → sp w [.ref a] H (fun v _ => v = .bl true) fun _ _ _ => False)
    (hCX : ∀ (w : World) (H : Hp) (s : Shared) (e : Value) (s' : Shared), CX w [] H s (fun _ _ _ => False) e s' → False) :
    PySem.W.WalkO q loose XP YP l.row.toRowW d [] (fun f vs => PySem.call f vs) := by
  refine Att.attach_call hn hdf fun w s₀ s₁ mg mb fa o pm cd doc a vs ns G Y ho hd hcd hmg hobj hints hlen hg => ?_
  have KX := hY w _ Y
  obtain ⟨fd, hb, hF⟩ := F w mg fa _ KX G.T.g hmg
  exact law_call KX G.T.g G.T.b G.T.builtins G.T.nolimit hg hobj hints (Nat.le_trans hlen hn2) hr hF hb (fun H hO hS => hsp w H a ns hlen hO hS) fun H e s' => hCX w H s₁ e s'
end L2



/-! SHORT WORDS over the layer: a def of the text, its body, what a loop and a test want. -/
namespace L2
open PySem PySem.Spec PyProof.Rows

/-! ### the text by places -/
/-- the j-th statement of a class's body -/
def inClass (s : Stmt) (j : Nat) : Stmt := match s with
  | .ClassDef _ _ _ body _ _ _ _ _ _ _ => body.getD j (.Pass ⟨0, 0, 0, 0⟩)
  | _ => .Pass ⟨0, 0, 0, 0⟩
def defArgs (s : Stmt) : Arguments := match s with
  | .FunctionDef _ a _ _ _ _ _ _ _ _ => a
  | _ => { posonlyargs := [], args := [], vararg := none, kwonlyargs := [], kw_defaults := [], kwarg := none, defaults := [] }
def defBody (s : Stmt) : List Stmt := match s with
  | .FunctionDef _ _ b _ _ _ _ _ _ _ => b
  | _ => []
def defScope (s : Stmt) : Scope := match s with
  | .FunctionDef _ _ _ _ _ _ sc _ _ _ => sc
  | _ => { kind := .function, names := [], isGenerator := false, isCoroutine := false }

/-! ### no exception leaves a def -/
abbrev CX0 : CXT := fun _ _ _ _ _ _ => False
abbrev E0 : XK := fun _ _ _ => False
theorem pass0 {X : Cx} : Passes CX0 X E0 := fun _ _ _ _ _ _ _ h => h.elim

/-! ### a def (or method) of the text as it stands behind the top -/
structure Fun (K : PySem.W.Frag) (x qual : Str) (st : Stmt) (f : Addr) (fd : FuncData) : Prop where
  ex : ∃ (oc : Value) (od : Option Addr) (kV doc pm : Value) (an : Option Addr) (cdv ct : Value) (osl : Array (Option Value)),
    fd = PySem.W.fnOf x qual (defArgs st) (defBody st) (defScope st) .none kV doc pm an cdv ct ∧ K.lookup f = some ⟨oc, od, .func fd, osl⟩ ∧ PySem.W.codeIn K cdv qual = true
  kp : PySem.W.keepIn K (.ref f) = true
section
variable {P : Program} {w : World} {K : PySem.W.Frag} {mg : Str → Option Value} {base : Heap}
/-- THE RULE for a def: its body as a term of rules, and the reading of that term -/
theorem Fun.ok {x qual : Str} {st : Stmt} {f : Addr} {fd : FuncData} {N ps : List Str} {k : Nat} {sp : Sp} (F : Fun K x qual st f fd) (S : FnScope N ps (defScope st)) (len : ∀ vs H Q E, sp vs H Q E → vs.length = ps.length)
    (hbody : ∀ (cdv : Value) (A : Around) (outer : List Env) (s : Shared) (H : Hp) (vs : List V) (Q : VK) (E : XK), Room k (A.deeper (envOfC qual (defScope st) s.heap.objs.size f cdv)) → sp vs H Q E →
      ∃ t, PSs (cxOf CX0 P w K mg base N qual (defScope st) f cdv A outer s H E).nox (defBody st) t ∧ t { nx := fun _ H' => Q .non H', rt := Q } (start N vs) H) : FnOk P w K mg base CX0 (k + 1) f fd ps sp := by
  obtain ⟨oc, od, kV, doc, pm, an, cdv, ct, osl, rfl, lk, hcd⟩ := F.ex
  refine fn_of lk hcd S len fun A outer s H vs Q E hr hsp => ?_
  obtain ⟨t, h, q⟩ := hbody cdv A outer s H vs Q E hr hsp
  exact ⟨t, h.nox, q⟩
/-- how its arguments bind (no defaults): h is «fun _ _ _ _ _ _ us hl => match us, hl with | [_, _], _ => rfl», one _ a parameter -/
theorem Fun.binds {x qual : Str} {st : Stmt} {f : Addr} {fd : FuncData} {ps : List Str} (F : Fun K x qual st f fd)
    (h : ∀ (kV doc pm : Value) (an : Option Addr) (cdv ct : Value) (us : List Value), us.length = ps.length → bindArgs (PySem.W.fnOf x qual (defArgs st) (defBody st) (defScope st) .none kV doc pm an cdv ct) ⟨us, []⟩ = pure (ps.zip us)) : Binds K fd ps [] := by
  obtain ⟨oc, od, kV, doc, pm, an, cdv, ct, osl, rfl, lk, hcd⟩ := F.ex
  exact .all (h kV doc pm an cdv ct)
theorem fun_mk {x qual : Str} {st : Stmt} {f : Addr} {oc : Value} {od an : Option Addr} {osl : Array (Option Value)} {kV doc pm cdv ct : Value} (l : K.lookup f = some ⟨oc, od, .func (PySem.W.fnOf x qual (defArgs st) (defBody st) (defScope st) .none kV doc pm an cdv ct), osl⟩)
    (c : PySem.W.codeIn K cdv qual = true) (k : PySem.W.keepIn K (.ref f) = true) : Fun K x qual st f (PySem.W.fnOf x qual (defArgs st) (defBody st) (defScope st) .none kV doc pm an cdv ct) := ⟨⟨oc, od, kV, doc, pm, an, cdv, ct, osl, rfl, l, c⟩, k⟩
end
theorem hu_of {A : Around} {k : Nat} (hr : Room k A) : A.units + 1 < cLine := Nat.lt_of_le_of_lt (Nat.add_le_add_left (by decide : 1 ≤ 64) _) hr.units
theorem small1000 {n : Nat} (h : n ≤ 1000) : n < sizeLine := Nat.lt_of_le_of_lt h (by decide)

/-! ### expressions in short: the name that stands in the i-th slot -/
section
variable {X : Cx}
theorem pv (i : Nat) {x : Str} {pos : Pos} (hN : X.N[i]? = some x := by rfl) (hv : Vis X.env.scope x := by first | exact Or.inl rfl | exact Or.inr (Or.inl rfl) | exact Or.inr (Or.inr rfl)) (hd : (x == ("__debug__" : Str)) = false := by decide)
    (hcd : (x == ("__classdict__" : Str)) = false := by decide) : PE X (.Name x pos) (tVar i) := pe_var hN hv hd hcd
end

/-! ### tests -/
theorem iteF {A B : Prop} (h : B) : if false = true then A else B := by
  rw [if_neg Bool.false_ne_true]
  exact h
theorem iteT {A B : Prop} (h : A) : if true = true then A else B := by
  rw [if_pos rfl]
  exact h
theorem ite2 {c A B : Prop} [Decidable c] (h1 : c → A) (h2 : ¬ c → B) : if c then A else B := by
  by_cases h : c
  · rw [if_pos h]
    exact h1 h
  · rw [if_neg h]
    exact h2 h
/-! ### heaps -/
/-- all that was tracked is as it was -/
def Same (H H' : Hp) : Prop := ∀ b o, H b = some o → H' b = some o
theorem Same.trans {H H1 H2 : Hp} (a : Same H H1) (b : Same H1 H2) : Same H H2 := fun c o h => b c o (a c o h)
theorem Same.free {H H' : Hp} (e : Same H H') {l : Addr} (h : H' l = Option.none) : H l = Option.none := by
  cases q : H l with
  | none => rfl
  | some o =>
    rw [e l o q] at h
    cases h
theorem Same.seq {K : PySem.W.Frag} {H H' : Hp} {a : Addr} {xs : List V} (e : Same H H') (h : SqL K H a xs) : SqL K H' a xs := by
  rcases h with (h | ⟨o, h⟩) | h
  · exact .inl (.inl (e _ _ h))
  · exact .inl (.inr ⟨o, e _ _ h⟩)
  · exact .inr h

end L2

set_option maxHeartbeats 4000000
namespace XL
open PySem
open Sem (wp)

theorem alive_of {o : Obj} (h : o.alive = true) : o.isFreed = false := by
  obtain ⟨c, d, dt, sl⟩ := o
  cases dt <;> first | rfl | cases h
/-- no object loses or gains a dict -/
def DK (h h' : Heap) : Prop := ∀ b o, h.get? b = some o → ∃ o', h'.get? b = some o' ∧ o'.dict = o.dict
theorem DK.refl (h : Heap) : DK h h := fun _ o e => ⟨o, e, rfl⟩
theorem DK.trans {h h1 h2 : Heap} (a : DK h h1) (b : DK h1 h2) : DK h h2 := fun c o e =>
  let ⟨o1, e1, d1⟩ := a c o e; let ⟨o2, e2, d2⟩ := b c o1 e1; ⟨o2, e2, d2.trans d1⟩
theorem DK.of_keeps {h h' : Heap} (k : ∀ b o, h.get? b = some o → h'.get? b = some o) : DK h h' := fun b o e => ⟨o, k b o e, rfl⟩
theorem DK.update {h : Heap} {a : Addr} {f : Obj → Obj} (hd : ∀ o, (f o).dict = o.dict) (hf : ∀ o, o.isFreed = false → (f o).isFreed = false) : DK h (h.update a f) := fun b o e => by
  by_cases q : b = a
  · subst q
    exact ⟨_, Heap.get?_update_self f e (hf o (alive_of ((Heap.get?_eq_some _ _ _).1 e).2)), hd o⟩
  · exact ⟨o, (Heap.get?_update_other h f (Ne.symm q)).trans e, rfl⟩

/-- a tree that leaves every object's dict as it is -/
structure KD {α : Type} (t : Sem α) : Prop where
  out : ∀ (M : Model) (Γ : Ctx) (P : α → Pos → Shared → Prop) (E : Value → Pos → Shared → Prop) (p : Pos) (s : Shared), wp M Γ t P E p s → wp M Γ t (fun a p' s' => P a p' s' ∧ DK s.heap s'.heap) E p s

namespace KD
variable {α β : Type}
theorem any {M : Model} {A : Around} {t : Sem α} {Q : α → Shared → Prop} {E : Value → Shared → Prop} {s : Shared} (k : KD t) (h : wpAny M A t Q E s) : wpAny M A t (fun a s' => Q a s' ∧ DK s.heap s'.heap) E s :=
  fun Γ p hΓ => k.out M Γ _ _ p s (h Γ p hΓ)
theorem pure' (a : α) : KD (Pure.pure a : Sem α) := ⟨fun M Γ P E p s h => by
  simp only [Sem.wp_pure'] at h ⊢
  exact ⟨h, DK.refl _⟩⟩
theorem unsupported' (w : String) : KD (PySem.unsupported w : Sem α) := ⟨fun M Γ P E p s h => h.elim⟩
theorem bind' {t : Sem α} {f : α → Sem β} (a : KD t) (b : ∀ x, KD (f x)) : KD (t >>= f) := ⟨fun M Γ P E p s h => by
  rw [Sem.wp_bind'] at h ⊢
  refine Sem.wp_mono M Γ _ (fun x p1 s1 h1 => ?_) (fun _ _ _ z => z) p s (a.out M Γ _ _ p s h)
  obtain ⟨h1, d1⟩ := h1
  refine Sem.wp_mono M Γ _ (fun y p2 s2 h2 => ?_) (fun _ _ _ z => z) p1 s1 ((b x).out M Γ _ _ p1 s1 h1)
  exact ⟨h2.1, d1.trans h2.2⟩⟩
theorem ite' {c : Prop} [Decidable c] {t u : Sem α} (a : KD t) (b : KD u) : KD (if c then t else u) := by
  split
  · exact a
  · exact b
theorem load' (a : Addr) : KD (PySem.load a) := ⟨fun M Γ P E p s h => by
  unfold PySem.load at h ⊢
  rw [Sem.wp_load] at h ⊢
  obtain ⟨o, ho, h⟩ := h
  refine ⟨o, ho, ?_⟩
  simp only [Sem.wp_pure] at h ⊢
  exact ⟨h, DK.refl _⟩⟩
theorem update' (a : Addr) (f : Obj → Obj) (hd : ∀ o, (f o).dict = o.dict) (hf : ∀ o, o.isFreed = false → (f o).isFreed = false) : KD (PySem.update a f) := ⟨fun M Γ P E p s h => by
  unfold PySem.update at h ⊢
  rw [Sem.wp_update] at h ⊢
  obtain ⟨o, h⟩ := h
  refine ⟨o, ?_⟩
  simp only [Sem.wp_pure] at h ⊢
  exact ⟨h, DK.update hd hf⟩⟩
theorem alloc' (o : Obj) : KD (PySem.alloc o) := ⟨fun M Γ P E p s h => by
  unfold PySem.alloc at h ⊢
  rw [Sem.wp_alloc] at h ⊢
  simp only [Sem.wp_pure] at h ⊢
  exact ⟨h, DK.of_keeps fun b u e => Heap.get?_push_of_some _ e⟩⟩
theorem stack' : KD PySem.stack := ⟨fun M Γ P E p s h => by
  unfold PySem.stack at h ⊢
  rw [Sem.wp_stack] at h ⊢
  simp only [Sem.wp_pure] at h ⊢
  exact ⟨h, DK.refl _⟩⟩
theorem fieldsOf' (v : Value) : KD (PySem.fieldsOf v) := by
  unfold PySem.fieldsOf
  cases v <;> first | exact unsupported' _ | skip
  refine bind' (load' _) fun o => ?_
  split
  · exact pure' _
  · exact unsupported' _
theorem field' (v : Value) (i : Nat) : KD (PySem.field v i) := by
  unfold PySem.field
  refine bind' (fieldsOf' v) fun vs => ?_
  split
  · exact pure' _
  · exact unsupported' _
theorem mapFields_dict (g : Array Value → Array Value) (o : Obj) : (Obj.mapFields g o).dict = o.dict := by
  obtain ⟨c, d, dt, sl⟩ := o
  cases dt <;> rfl
theorem mapFields_freed (g : Array Value → Array Value) (o : Obj) (h : o.isFreed = false) : (Obj.mapFields g o).isFreed = false := by
  obtain ⟨c, d, dt, sl⟩ := o
  cases dt <;> first | rfl | exact h
theorem setField' (v : Value) (i : Nat) (x : Value) : KD (PySem.setField v i x) := by
  unfold PySem.setField
  cases v <;> first | exact unsupported' _ | skip
  unfold PySem.updateField
  refine bind' (load' _) fun o => ?_
  split
  · exact ite' (update' _ _ (mapFields_dict _) (mapFields_freed _)) (unsupported' _)
  · exact unsupported' _
theorem behindIsImport' (env : Env) (outer : List Env) : KD (PySem.behindIsImport env outer) := by
  unfold PySem.behindIsImport
  repeat' first | exact pure' _ | exact field' _ _ | apply ite' | apply bind' | intro _
theorem underTheClaimsCaller' : KD PySem.underTheClaimsCaller := by
  unfold PySem.underTheClaimsCaller
  repeat' first | exact pure' _ | exact stack' | apply ite' | apply bind' | intro _
theorem keptBack' (env : Env) (i : Bool) (l : List Env) : KD (PySem.keptBack env i l) := by
  have := underTheClaimsCaller'
  cases l <;> unfold PySem.keptBack <;> repeat' first | assumption | exact pure' _ | apply ite' | apply bind' | intro _
theorem readyFrames' : ∀ l : List Env, KD (PySem.readyFrames l)
  | [] => pure' _
  | env :: outer => by
    have ih := readyFrames' outer
    have h1 := behindIsImport' env outer
    have h2 := fun i => keptBack' env i outer
    unfold PySem.readyFrames
    cases env.frame with
    | none => exact unsupported' _
    | some f =>
      refine bind' (load' _) fun o => ite' (pure' _) ?_
      refine bind' h1 fun i => bind' (h2 i) fun b => bind' (update' _ _ (fun _ => rfl) (fun o h => by obtain ⟨c, d, dt, sl⟩ := o; cases dt <;> first | rfl | exact h)) fun _ => ih
theorem frameObject' (l : List Env) : KD (PySem.frameObject l) := by
  cases l with
  | nil => exact pure' _
  | cons env outer =>
    unfold PySem.frameObject
    exact bind' (readyFrames' _) fun _ => pure' _
theorem frameOf' (env : Env) : KD (PySem.frameOf env) := by
  unfold PySem.frameOf PySem.frameEnvs
  refine bind' (bind' stack' fun _ => pure' _) fun l => bind' (frameObject' _) fun o => ?_
  cases o with
  | none => exact unsupported' _
  | some f => exact pure' _
theorem entryPlaceOf' (f : Addr) (b : Bool) : KD (PySem.entryPlaceOf f b) := by
  unfold PySem.entryPlaceOf
  refine bind' stack' fun a => ?_
  split <;> exact pure' _
theorem newEntry' (a b c d e : Value) (pl : List Value) : KD (PySem.EntryCells.newEntry a b c d e pl) := by
  unfold PySem.EntryCells.newEntry PySem.newFields PySem.newObj PySem.newObjAsIs
  dsimp only
  repeat' first | exact unsupported' _ | exact pure' _ | exact alloc' _ | apply ite' | apply bind' | intro _
theorem noteFrame' (e : Value) (env : Env) : KD (PySem.noteFrame e env) := by
  unfold PySem.noteFrame
  cases env.frame with
  | none => exact unsupported' _
  | some f =>
    dsimp only
    have tail : ∀ head, KD (do setField e 1 (← EntryCells.newEntry head (← frameOf env) .none (rawInt f) .none (← entryPlaceOf f (head != .none)))) := fun head =>
      bind' (frameOf' env) fun _ => bind' (entryPlaceOf' _ _) fun _ => bind' (newEntry' _ _ _ _ _ _) fun _ => setField' _ _ _
    refine bind' (field' _ _) fun head => ite' ?_ (tail head)
    exact bind' (field' _ _) fun x => ite' (pure' _) (bind' (setField' _ _ _) fun _ => tail head)
theorem setFlight' (e : Value) (f : Option Addr) : KD (PySem.setFlight e f) := by
  unfold PySem.setFlight
  exact bind' (field' _ _) fun _ => ite' (setField' _ _ _) (pure' _)
theorem leaving' (env : Env) (e : Value) : KD (PySem.leaving env e) := by
  unfold PySem.leaving
  exact bind' (noteFrame' _ _) fun _ => setFlight' _ _
end KD
end XL
namespace XM
/-- item by item -/
inductive All2 {α β : Type} (R : α → β → Prop) : List α → List β → Prop
  | nil : All2 R [] []
  | cons {x : α} {y : β} {xs : List α} {ys : List β} : R x y → All2 R xs ys → All2 R (x :: xs) (y :: ys)
namespace All2
variable {α β : Type} {R S : α → β → Prop}
theorem length {xs : List α} {ys : List β} (h : All2 R xs ys) : xs.length = ys.length := by
  induction h with
  | nil => rfl
  | cons _ _ ih => simp [ih]
theorem imp {xs : List α} {ys : List β} (k : ∀ x y, R x y → S x y) (h : All2 R xs ys) : All2 S xs ys := by
  induction h with
  | nil => exact .nil
  | cons r _ ih => exact .cons (k _ _ r) ih
theorem append {xs xs' : List α} {ys ys' : List β} (h : All2 R xs ys) (h' : All2 R xs' ys') : All2 R (xs ++ xs') (ys ++ ys') := by
  induction h with
  | nil => exact h'
  | cons r _ ih => exact .cons r ih
theorem get {xs : List α} {ys : List β} (h : All2 R xs ys) : ∀ {i : Nat} {x : α}, xs[i]? = some x → ∃ y, ys[i]? = some y ∧ R x y := by
  induction h with
  | nil => intro i x e; simp at e
  | cons r _ ih => intro i x e; cases i with
    | zero => simp at e; subst e; exact ⟨_, rfl, r⟩
    | succ i => simp at e; obtain ⟨y, h1, h2⟩ := ih e; exact ⟨y, by simpa using h1, h2⟩
theorem of_get {xs : List α} : ∀ {ys : List β}, xs.length = ys.length → (∀ (i : Nat) x y, xs[i]? = some x → ys[i]? = some y → R x y) → All2 R xs ys := by
  induction xs with
  | nil => intro ys e _; cases ys with
    | nil => exact .nil
    | cons _ _ => simp at e
  | cons x xs ih => intro ys e k; cases ys with
    | nil => simp at e
    | cons y ys => exact .cons (k 0 x y rfl rfl) (ih (by simpa using e) fun i a b h1 h2 => k (i + 1) a b (by simpa using h1) (by simpa using h2))
end All2

abbrev PP := List (Int × Int)
def okPair (q : Int) (p : Int × Int) : Bool := (decide (0 ≤ p.1) && decide (p.1 < q)) && ((decide (0 ≤ p.2) && decide (p.2 < q)) && !decide (p.1 = p.2))
def fits (q : Int) (ps : PP) : Bool := (decide (1 ≤ q) && decide (q ≤ 24)) && (decide (ps.length ≤ 60) && ps.all (okPair q))
def mkPair (q c : Int) : Int × Int := (c % q, (c % q + 1 + c / q % (q - 1)) % q)
theorem mkPair_ok (q c : Int) (hq : 1 < q) : okPair q (mkPair q c) = true := by
  have h1 := Int.emod_nonneg c (b := q) (by (first | lia | omega))
  have h2 := Int.emod_lt_of_pos c (b := q) (by (first | lia | omega))
  have h3 := Int.emod_nonneg (c / q) (b := q - 1) (by (first | lia | omega))
  have h4 := Int.emod_lt_of_pos (c / q) (b := q - 1) (by (first | lia | omega))
  have key : ∀ (o r : Int), 0 ≤ o → o < q → 0 ≤ r → r < q - 1 → 0 ≤ (o + 1 + r) % q ∧ (o + 1 + r) % q < q ∧ o ≠ (o + 1 + r) % q := by
    intro o r a b c d
    have e1 := Int.emod_nonneg (o + 1 + r) (b := q) (by (first | lia | omega))
    have e2 := Int.emod_lt_of_pos (o + 1 + r) (b := q) (by (first | lia | omega))
    refine ⟨e1, e2, fun z => ?_⟩
    by_cases h : o + 1 + r < q
    · rw [Int.emod_eq_of_lt (by (first | lia | omega)) h] at z; (first | lia | omega)
    · have : (o + 1 + r) % q = o + 1 + r - q := by
        rw [← Int.sub_emod_right]
        exact Int.emod_eq_of_lt (by (first | lia | omega)) (by (first | lia | omega))
      (first | lia | omega)
  obtain ⟨k1, k2, k3⟩ := key (c % q) (c / q % (q - 1)) h1 h2 h3 h4
  unfold okPair mkPair
  simp [h1, h2, k1, k2, k3]
def townP (q : Int) (ns : List Int) : PP := if 1 < q then ns.map (mkPair q) else []
theorem town_fits (q : Int) (h1 : 1 ≤ q) (h2 : q ≤ 24) (ns : List Int) (hl : ns.length ≤ 60) : fits q (townP q ns) = true := by
  unfold fits townP
  split
  · rename_i hq
    have e : (ns.map (mkPair q)).all (okPair q) = true := by
      rw [List.all_eq_true]
      intro p hp
      obtain ⟨c, _, rfl⟩ := List.mem_map.mp hp
      exact mkPair_ok q c hq
    simp [h1, h2, hl, e]
  · simp [h1, h2]
end XM
namespace L2
open PySem PySem.Spec PyProof.Rows XL

/-! ### an exception on its way -/
theorem ObjOk.there {P : Program} {w : World} {H : Hp} {h : Heap} {a : Addr} {o : HO} (x : ObjOk P w H h a o) : ∃ ob, h.get? a = some ob := by
  cases o with
  | lst xs => obtain ⟨_, _, _, _, e⟩ := x; exact ⟨_, e⟩
  | tup xs => obtain ⟨_, _, _, o, e, _⟩ := x; exact ⟨_, e⟩
  | dK kvs => obtain ⟨_, _, _, _, o, _, _, e, _⟩ := x; exact ⟨_, e⟩
  | dT kvs => obtain ⟨_, _, _, _, o, _, _, e, _⟩ := x; exact ⟨_, e⟩
  | set S n => obtain ⟨o, _, _, _, e, _⟩ := x; exact ⟨_, e⟩
  | ins C dx fs => obtain ⟨_, _, _, e, _⟩ := x; exact ⟨_, e⟩
  | own y => exact x
  | xd fs => obtain ⟨_, ⟨_, _, _, e, _⟩, _⟩ := x; exact ⟨_, e⟩
  | rng lo hi => obtain ⟨_, _, _, e⟩ := x; exact ⟨_, e⟩
  | frz ob u => exact ⟨_, x.1⟩
  | tbl ps => exact ⟨_, (show h.get? a = some _ from x)⟩
  | met f y => exact ⟨_, (show h.get? a = some _ from x)⟩
  | ext φ => exact x.2.1

/-- all that was there at s but the frames at l, and all that is tracked at H', stands in B as it stands at h -/
structure InB (l : List Env) (h0 : Heap) (H' : Hp) (h : Heap) (B : Heap) : Prop where
  old : ∀ b o₀ o, h0.get? b = some o₀ → b ∉ frs l → h.get? b = some o → B.get? b = some o
  trk : ∀ b u o, H' b = some u → h.get? b = some o → B.get? b = some o

/-- an exception at a of the class cls has left what was called at (H, s) and flies over the frames l -/
structure Fly (P : Program) (w : World) (l : List Env) (H : Hp) (s : Shared) (H' : Hp) (a : Addr) (cls : Value) (s' : Shared) : Prop where
  os : s'.os = s.os
  bare : AllBare s'.gens
  un : Un (frs l) [] H H' s.heap s'.heap
  hok : HOk P w H' s'.heap
  fl : ∃ (B : Heap) (t : Addr), Heap.FlyingW B l a cls (.ref t) s'.heap ∧ InB l s.heap H' s'.heap B
  fresh : H' a = none
  dict : ∃ oe, s'.heap.get? a = some oe ∧ oe.dict = none
def CXE (P : Program) (w : World) : CXT := fun l H s E e s' => ∃ (a : Addr) (cls : Value) (H' : Hp), e = .ref a ∧ Fly P w l H s H' a cls s' ∧ E cls none H'

/-- the heap goes on from h1 to h2: B stays, all else up to slots -/
theorem un_on {P : Program} {w : World} {l : List Env} {H H' : Hp} {h0 h1 h2 B : Heap} (f : Un (frs l) [] H H' h0 h1) (ok : HOk P w H' h1) (fr : ∀ b ∈ frs l, ∃ o, h1.get? b = some o ∧ ∀ vs, o.data ≠ .fields vs)
    (st : B.StaysIn h2) (up : h1.UpToSlots h2) (c : InB l h0 H' h1 B) : Un (frs l) [] H H' h0 h2 ∧ HOk P w H' h2 ∧ InB l h0 H' h2 B := by
  refine ⟨⟨fun b o e n hb hx => ?_, fun b o e n hb hx => ?_, f.free, fun b o e hx => ?_, f.tups, f.frzs, f.tbls⟩, fun b u e => ?_, ⟨fun b o₀ o e hb q => ?_, fun b u o e q => ?_⟩⟩
  · exact st _ _ (c.old b o o e hb (f.keep b o e n hb hx))
  · obtain ⟨sl, e1⟩ := f.slot b o e n hb hx
    obtain ⟨ob, eo, nf⟩ := fr b hb
    rw [e1] at eo
    cases eo
    obtain ⟨sl2, e2⟩ := up b _ e1 nf
    exact ⟨sl2, e2⟩
  · obtain ⟨o1, e1⟩ := f.there b o e hx
    by_cases hb : b ∈ frs l
    · obtain ⟨ob, eo, nf⟩ := fr b hb
      obtain ⟨sl2, e2⟩ := up b ob eo nf
      exact ⟨_, e2⟩
    · exact ⟨o1, st _ _ (c.old b o o1 e hb e1)⟩
  · refine (ok b u e).stay (fun d v hd q => st d v ?_) (fun _ q => q) fun _ _ q => q
    rcases hd with z | z
    · subst z
      exact c.trk d u v e q
    · exact c.trk d _ v z q
  · obtain ⟨o1, e1⟩ := f.there b o₀ e (by simp)
    have e2 := c.old b o₀ o1 e hb e1
    have e3 := st _ _ e2
    rw [q] at e3
    cases e3
    exact e2
  · obtain ⟨o1, e1⟩ := (ok b u e).there
    have e2 := c.trk b u o1 e e1
    have e3 := st _ _ e2
    rw [q] at e3
    cases e3
    exact e2

section
variable {X : Cx} {pins : List (Addr × Obj)} {σ : St} {H H' : Hp} {s s' : Shared} {a : Addr} {cls : Value} {M : Model} {E : Value → Shared → Prop}

/-- out of the frame: from over the stack to over the callers' -/
theorem fly_out {B : Heap} {t : Addr} (I : Inv X pins σ H s) (hex : X.ex = []) (os : s'.os = s.os) (bare : AllBare s'.gens) (un : Un (frs X.stack) [] H H' s.heap s'.heap) (hok : HOk X.prog X.w H' s'.heap)
    (fl : Heap.FlyingW B X.outer a cls (.ref t) s'.heap) (c : InB X.stack s.heap H' s'.heap B) (fresh : H' a = none) (dict : ∃ oe, s'.heap.get? a = some oe ∧ oe.dict = none) : Fly X.prog X.w X.outer X.H₀ X.s₀ H' a cls s' := by
  have J : Inv X pins σ H' s' := I.call' (ch := []) os un hok bare (fun _ z => nomatch z)
  have ub := J.base
  rw [hex] at ub
  refine ⟨J.os, bare, ub, hok, ⟨B, t, fl, ⟨fun b o₀ o e hb q => ?_, c.trk⟩⟩, fresh, dict⟩
  obtain ⟨o1, e1⟩ := I.base.there b o₀ e (by rw [hex]; simp)
  refine c.old b o1 o e1 (fun z => ?_) q
  rcases List.mem_cons.mp (I.stkSub b z) with z | z
  · exact absurd z (Nat.ne_of_lt (Nat.lt_of_lt_of_le (Heap.lt_size e) I.ok.above))
  · exact hb z

theorem frs_not_fields {l : List Env} {base h : Heap} (f : h.FunFrames base l) : ∀ b ∈ frs l, ∃ o, h.get? b = some o ∧ ∀ vs, o.data ≠ .fields vs := fun _ hb => (f.mem hb).2

/-- made on the spot: it leaves the frame -/
theorem raise_leaves {vs : List Value} {h' : Heap} {Q : Unit → Shared → Prop} (I : Inv X pins σ H s) (hex : X.ex = []) (hst : X.stack = X.env :: X.outer) (hf : X.env.frame = some X.env.locals) (hx : Heap.MadeExcOf s.heap h' a cls vs)
    (hQ : ∀ s'', Fly X.prog X.w X.outer X.H₀ X.s₀ H a cls s'' → Q () s'') : wpAny M X.A (leaving X.env (.ref a)) Q E { s with heap := h' } := by
  have hin : ∀ env ∈ X.stack, ∀ b, env.frame = some b → b ∈ frs X.stack := fun env he b hb => List.mem_filterMap.mpr ⟨env, he, hb⟩
  have hl : s.heap.FunFrames (PySem.W.hideAll s.heap (frs X.stack)) X.stack := PySem.W.funFrames_hide I.stack hin
  have hl' : s.heap.FunFrames (PySem.W.hideAll s.heap (frs X.stack)) (X.env :: X.outer) := by
    generalize PySem.W.hideAll s.heap (frs X.stack) = B at hl
    rw [hst] at hl
    exact hl
  have hfr := I.ok.frames
  rw [hst] at hfr
  refine wpAny_mono ((KD.leaving' X.env (.ref a)).any (wpAny_leaves_madeW (base := PySem.W.hideAll s.heap (frs X.stack)) (h := s.heap) (L := X.env.locals) (s := { s with heap := h' })
    (Q := fun _ s'' => ∃ h2 t, s'' = { s with heap := h2 } ∧ Heap.FlyingW (PySem.W.hideAll s.heap (frs X.stack)) X.outer a cls (.ref t) h2 ∧ h'.UpToSlots h2) hfr hf (fun b o q => PySem.W.of_hideAll _ q) hl' hx
    fun h2 t x1 _ _ x4 => ⟨h2, t, rfl, x1, x4⟩)) (fun _ s'' z => ?_) fun _ _ z => z
  obtain ⟨⟨h2, t, rfl, fl, up⟩, dk⟩ := z
  refine hQ _ ?_
  have c0 : InB X.stack s.heap H s.heap (PySem.W.hideAll s.heap (frs X.stack)) := ⟨fun b o₀ o _ hb q => PySem.W.hideAll_get _ q hb, fun b u o e q => PySem.W.hideAll_get _ q fun z => by
    have := I.stkFree b z
    rw [e] at this
    cases this⟩
  obtain ⟨u2, ok2, c2⟩ := un_on (P := X.prog) (w := X.w) (l := X.stack) (H := H) (H' := H) (h0 := s.heap) (h1 := s.heap) (h2 := h2) Un.refl I.hok (frs_not_fields hl) fl.1 ((Heap.UpToSlots.of_keeps hx.keeps).trans up) c0
  refine fly_out (s' := { s with heap := h2 }) I hex rfl I.bare u2 ok2 fl c2 ?_ ?_
  · cases q : H a with
    | none => rfl
    | some u =>
      obtain ⟨ob, e⟩ := (I.hok a u q).there
      have := hx.new
      rw [e] at this
      cases this
  · obtain ⟨t', he, _⟩ := hx.there
    obtain ⟨o', e', d'⟩ := dk a _ he
    exact ⟨o', e', d'⟩

/-- a callee's: it leaves this frame too -/
theorem pass_leaves {Q : Unit → Shared → Prop} (I : Inv X pins σ H s) (hex : X.ex = []) (hst : X.stack = X.env :: X.outer) (hf : X.env.frame = some X.env.locals) (f : Fly X.prog X.w X.stack H s H' a cls s')
    (hQ : ∀ s'', Fly X.prog X.w X.outer X.H₀ X.s₀ H' a cls s'' → Q () s'') : wpAny M X.A (leaving X.env (.ref a)) Q E s' := by
  obtain ⟨B, t, fl, c⟩ := f.fl
  have hfr := I.ok.frames
  rw [hst] at hfr
  have fl' := fl
  rw [hst] at fl'
  refine wpAny_mono ((KD.leaving' X.env (.ref a)).any (wpAny_leaves_onW (base := B) (L := X.env.locals) (s := s') (Q := fun _ s'' => ∃ h2, s'' = { s' with heap := h2 } ∧ Heap.FlyingW B X.outer a cls (.ref t) h2 ∧ s'.heap.UpToSlots h2) hfr hf fl'
    fun h2 x1 x2 => ⟨h2, rfl, x1, x2⟩)) (fun _ s'' z => ?_) fun _ _ z => z
  obtain ⟨⟨h2, rfl, fl2, up⟩, dk⟩ := z
  refine hQ _ ?_
  obtain ⟨u2, ok2, c2⟩ := un_on f.un f.hok (frs_not_fields fl.2.2.1) fl2.1 up c
  refine fly_out (s' := { s' with heap := h2 }) I hex f.os f.bare u2 ok2 fl2 c2 f.fresh ?_
  obtain ⟨oe, e, d⟩ := f.dict
  obtain ⟨o', e', d'⟩ := dk a oe e
  exact ⟨o', e', d'.trans d⟩

/-! ### an exception that was caught: what is known of its object -/
/-- an object that was not tracked is tracked -/
theorem Inv.track {o : HO} (I : Inv X pins σ H s) (hn : H a = none) (h0 : X.s₀.heap.get? a = none) (hL : a ≠ X.env.locals) (hC : ∀ x c, X.env.cells.lookup x = some c → c ≠ a) (hp : ∀ p ∈ X.pn ++ pins, p.1 ≠ a)
    (new : ObjOk X.prog X.w (upd H a o) s.heap a o) : Inv X pins σ (upd H a o) s := by
  refine ⟨I.ok, I.os, I.bare, ⟨I.base.keep, I.base.slot, fun b ob e n hx => ?_, I.base.there, fun b xs e => ?_, fun b u xs e => ?_, fun b ps e => ?_⟩, I.loc, I.cell, ?_, fun x c e => ?_, fun p hp' => ?_, fun b u e => ?_, I.len⟩
  · rw [upd_ne (fun z => by subst z; rw [h0] at e; cases e)]
    exact I.base.free b ob e n hx
  · rw [upd_ne (ne_of_none (I.base.tups b xs e) hn)]
    exact I.base.tups b xs e
  · rw [upd_ne (ne_of_none (I.base.frzs b u xs e) hn)]
    exact I.base.frzs b u xs e
  · obtain ⟨more, q⟩ := I.base.tbls b ps e
    exact ⟨more, by rw [upd_ne (ne_of_none q hn)]; exact q⟩
  · rw [upd_ne (Ne.symm hL)]
    exact I.free
  · rw [upd_ne (hC x c e)]
    exact I.freeC x c e
  · obtain ⟨e, n, r⟩ := I.pin p hp'
    exact ⟨e, by rw [upd_ne (hp p hp')]; exact n, r⟩
  · by_cases hb : b = a
    · subst hb
      rw [upd_same] at e
      cases e
      exact new
    · rw [upd_ne hb] at e
      exact (I.hok b u e).stay (fun _ _ _ q => q) (fun c q => by rw [upd_ne (ne_of_none q hn)]; exact q) fun c xs q => by rw [upd_ne (ne_of_none q hn)]; exact q

end
end L2
namespace L2
open PySem PySem.Spec PyProof.Rows XL

/-! ### where an exception may leave -/
/-- what X wants of an exception is E's wish behind its frame (a def's body) -/
structure Lets (X : Cx) (E : XK) : Prop where
  ex : X.ex = []
  st : X.stack = X.env :: X.outer
  fr : X.env.frame = some X.env.locals
  xe : ∀ (e : Value) (s' : Shared), wpAny (model X.prog X.w) X.A (leaving X.env e) (fun _ s'' => CXE X.prog X.w X.outer X.H₀ X.s₀ E e s'') (fun e' s'' => CXE X.prog X.w X.outer X.H₀ X.s₀ E e' s'') s' → X.xe e s'
  po : PassesOwn (model X.prog X.w) X.A X.env X.xe
theorem lets_cx {P : Program} {w : World} {K : PySem.W.Frag} {mg : Str → Option Value} {base : Heap} {N : List Str} {qual : Str} {scope : Scope} {f : Addr} {cd : Value} {A : Around} {outer : List Env} {s : Shared} {H : Hp} {E : XK} :
    Lets (cxOf (CXE P w) P w K mg base N qual scope f cd A outer s H E) E := ⟨rfl, rfl, rfl, fun _ _ h => h, PassesOwn.leaving⟩
theorem Lets.pass {X : Cx} {E : XK} (l : Lets X E) : Passes (CXE X.prog X.w) X E := fun pins σ H s e s' I h => by
  obtain ⟨a, cls, H', rfl, f, q⟩ := h
  exact l.xe _ _ (pass_leaves I l.ex l.st l.fr f fun s'' g => ⟨a, cls, H', rfl, g, q⟩)

/-! ### raise C(..) -/
/-- an own error class over a built-in one -/
structure Err (K : PySem.W.Frag) (C : Addr) (B newId initId : String) (bmB : List Value) : Prop where
  ok : PySem.W.excIn K C bmB newId = true
  base : ExcBaseFacts B newId initId bmB
theorem Err.obj {K : PySem.W.Frag} {C : Addr} {B newId initId : String} {bmB : List Value} (c : Err K C B newId initId bmB) {h : Heap} (X : K.In h) :
    ∃ bm N nm q bs hdct sn sub ab col dd k0 k1 k2 k3 k5 mN, h.get? C = some (excClassObj nm q C N bs bm hdct sn sub ab col dd k0 k1 k2 k3 k5 newId) ∧ h.Ns N mN ∧ mN "__init__" = none ∧ OwnTail h bmB bm := by
  have q := c.ok
  unfold PySem.W.excIn at q
  split at q
  · rename_i dd cd sl ho
    split at q
    · rename_i C' bm k0 k1 k2 k3 n k5 hm hs
      simp only [Bool.and_eq_true, beq_iff_eq, Bool.not_eq_true'] at q
      obtain ⟨⟨⟨⟨⟨rfl, rfl⟩, hdel⟩, ht⟩, hok⟩, hni⟩ := q
      obtain ⟨nm, bs, mro, ns, qn, hd, sn, sub, ab, col, del⟩ := cd
      dsimp only at hm hdel hok hni
      subst hm hdel
      have hsl : sl = #[k0, k1, k2, k3, some (.builtin n), k5] := by
        obtain ⟨l⟩ := sl
        simp only at hs
        rw [hs]
      subst hsl
      exact ⟨bm, ns, nm, qn, bs, hd, sn, sub, ab, col, dd, k0, k1, k2, k3, k5, _, X _ _ ho, .of_isNs (PySem.W.isNs_of_in X hok), PySem.W.nsMap_none_of_in X hok hni, PySem.W.tail_of_in X ht⟩
    · cases q
  · cases q

section
variable {X : Cx} {E : XK} {C : Addr} {B newId initId : String} {bmB : List Value} {x : Str} {np cpos pos : Pos} {e₀ : Expr} {rest : List Expr} {t : TA}
/-- raise C(e, ..): the reading: the arguments, then E's wish -/
def tRaise (C : Addr) (E : XK) (t : TA) : TS := fun _ σ H => t σ H fun vs H1 => vs.length ≤ sizeLine ∧ E (.ref C) none H1
theorem ps_raise (l : Lets X E) (c : Err X.K C B newId initId bmB) (hh : X.A.handled = none) (hg : Gl X x) (hm : X.mg x = some (.ref C)) (ha : PA X (e₀ :: rest) t)
    (he : starEach (e₀ :: rest) X.env = (false, eval e₀ X.env) :: starEach rest X.env := by rfl) (hplain : (backTo cpos (starEach rest X.env)).any (·.1) = false := by rfl) (hd : (x == ("__debug__" : Str)) = false := by decide) :
    PS X (.Raise (some (.Call (.Name x np) (e₀ :: rest) [] cpos)) none pos) (tRaise C E t) := by
  intro pins s σ H D I h
  obtain ⟨tl, N, nm, q, bs, hdct, sn, sub, ab, col, dd, k0, k1, k2, k3, k5, mN, hC, hN, hni, T⟩ := c.obj I.ok.mod.kin
  refine wpAny_Raise_call_subT (C := C) (nm := nm) (q := q) (N := N) (bs := bs) (bm := tl) (hdct := hdct) (sn := sn) (sub := sub) (ab := ab) (col := col) (dd := dd) (k0 := k0) (k1 := k1) (k2 := k2) (k3 := k3) (k5 := k5)
    c.base (mN := mN) (T.hasType c.base.hasBase) hh (by rw [he]; show (false || (backTo cpos (starEach rest X.env)).any (·.1)) = false; rw [hplain]; rfl) hni (ld_glob I hg hm ⟨rfl, ?_⟩ hd)
  have hv := ha cpos pins s σ H _ I h
  rw [he] at hv ⊢
  refine Calls.evalArgs_plain (wpAny_mono hv (fun us s2 z => ?_) fun _ _ y => y)
  obtain ⟨vs, H1, I1, r, hz, hE⟩ := z
  exact ⟨rfl, by show us.length ≤ sizeLine; rw [← r.length]; exact hz, I1.bk _ _ hC, hN.keeps I1.bk, T.keeps I1.bk, fun h' e hm => l.xe _ _ (raise_leaves I1 l.ex l.st l.fr hm fun s'' g => ⟨e, _, H1, rfl, g, hE⟩)⟩
end

/-! ### a def that may raise -/
section
variable {P : Program} {w : World} {K : PySem.W.Frag} {mg : Str → Option Value} {base : Heap}
theorem Fun.okE {x qual : Str} {st : Stmt} {f : Addr} {fd : FuncData} {N ps : List Str} {k : Nat} {sp : Sp} (F : Fun K x qual st f fd) (S : FnScope N ps (defScope st)) (len : ∀ vs H Q E, sp vs H Q E → vs.length = ps.length)
    (hbody : ∀ (cdv : Value) (A : Around) (outer : List Env) (s : Shared) (H : Hp) (vs : List V) (Q : VK) (E : XK), Room k (A.deeper (envOfC qual (defScope st) s.heap.objs.size f cdv)) → sp vs H Q E →
      ∃ t, PSs (cxOf (CXE P w) P w K mg base N qual (defScope st) f cdv A outer s H E) (defBody st) t ∧ t { nx := fun _ H' => Q .non H', rt := Q } (start N vs) H) : FnOk P w K mg base (CXE P w) (k + 1) f fd ps sp := by
  obtain ⟨oc, od, kV, doc, pm, an, cdv, ct, osl, rfl, lk, hcd⟩ := F.ex
  exact fn_of lk hcd S len fun A outer s H vs Q E hr hsp => hbody cdv A outer s H vs Q E hr hsp
end

/-! ### try .. except C as n -/
section
variable {X : Cx} {pins : List (Addr × Obj)} {σ : St} {H H' : Hp} {s s' : Shared}
end

/-! ### calls in a try's body: at the very names' values -/
section
variable {X : Cx} {CX : CXT} {k : Nat} {f C : Addr} {fd : FuncData} {ps : List Str} {sp : Sp} {dvs : List V} {ds : List Value} {E : XK} {x : Str} {p pos : Pos} {e : Expr} {es : List Expr} {t : TA} {σ₀ : St}
end

/-! ### deep data: ==, != -/
/-- what data a value is -/
inductive Den (K : PySem.W.Frag) (H : Hp) : V → PyData → Prop
  | non : Den K H .non .none
  | bl (b : Bool) : Den K H (.bl b) (.bool b)
  | int (i : Int) : Den K H (.int i) (.int i)
  | str (x : Str) : Den K H (.str x) (.str x)
  | lst {a : Addr} {xs : List V} {ds : List PyData} (h : SqL K H a xs) (hl : xs.length = ds.length) (r : ∀ (i : Nat) x d, xs[i]? = some x → ds[i]? = some d → Den K H x d) : Den K H (.ref a) (.list ds)
  | tup {a : Addr} {xs : List V} {ds : List PyData} (h : SqT K H a xs) (hl : xs.length = ds.length) (r : ∀ (i : Nat) x d, xs[i]? = some x → ds[i]? = some d → Den K H x d) : Den K H (.ref a) (.tuple ds)
theorem readsAll_of {h : Heap} : ∀ {us : List Value} {ds : List PyData}, us.length = ds.length → (∀ (i : Nat) u d, us[i]? = some u → ds[i]? = some d → ∃ as, Reads h u d as) → ∃ as, ReadsAll h us ds as
  | [], [], _, _ => ⟨_, .nil⟩
  | [], _ :: _, e, _ => by simp at e
  | _ :: _, [], e, _ => by simp at e
  | u :: us, d :: ds, e, k => by
    obtain ⟨as, r⟩ := k 0 u d rfl rfl
    obtain ⟨bs, q⟩ := readsAll_of (us := us) (ds := ds) (by simpa using e) fun i v c h1 h2 => k (i + 1) v c (by simpa using h1) (by simpa using h2)
    exact ⟨_, .cons r q⟩
theorem Den.reads {X : Cx} {pins : List (Addr × Obj)} {σ : St} {H : Hp} {s : Shared} (I : Inv X pins σ H s) {x : V} {d : PyData} (D : Den X.K H x d) : ∀ {u : Value}, RelV x u → ∃ as, Reads s.heap u d as := by
  induction D with
  | non => intro u r; cases (show u = Value.none from r); exact ⟨_, .none⟩
  | bl b => intro u r; cases (show u = Value.bool b from r); exact ⟨_, .bool b⟩
  | int i => intro u r; obtain ⟨t, q⟩ := (show ∃ t, u = Value.int i t from r); cases q; exact ⟨_, .int i t⟩
  | str y => intro u r; obtain ⟨t, q⟩ := (show ∃ t, u = Value.str y t from r); cases q; exact ⟨_, .str y t⟩
  | @lst a xs ds h hl r ih =>
    intro u ru
    cases (show u = Value.ref a from ru)
    obtain ⟨its, hv, pl, _⟩ := I.list h
    have hlen := hv.length
    obtain ⟨as, q⟩ := readsAll_of (h := s.heap) (us := its) (ds := ds) (by (first | lia | omega)) fun i v d h1 h2 => by
      have hx : i < xs.length := by have := (List.getElem?_eq_some_iff.mp h1).1; (first | lia | omega)
      obtain ⟨v', e', rv⟩ := hv.get (List.getElem?_eq_getElem hx)
      rw [h1] at e'
      cases e'
      exact ih i _ d (List.getElem?_eq_getElem hx) h2 rv
    obtain ⟨o, ho, hc, n, hd⟩ := pl.isList
    exact ⟨_, .list ho hc hd (by simpa using q)⟩
  | @tup a xs ds h hl r ih =>
    intro u ru
    cases (show u = Value.ref a from ru)
    obtain ⟨its, hv, pl, _⟩ := I.tuple h
    have hlen := hv.length
    obtain ⟨as, q⟩ := readsAll_of (h := s.heap) (us := its) (ds := ds) (by (first | lia | omega)) fun i v d h1 h2 => by
      have hx : i < xs.length := by have := (List.getElem?_eq_some_iff.mp h1).1; (first | lia | omega)
      obtain ⟨v', e', rv⟩ := hv.get (List.getElem?_eq_getElem hx)
      rw [h1] at e'
      cases e'
      exact ih i _ d (List.getElem?_eq_getElem hx) h2 rv
    obtain ⟨o, ho, hc, n, hd⟩ := pl
    exact ⟨_, .tuple ho hc hd (by simpa using q)⟩
inductive rDenI (K : PySem.W.Frag) (f : Bool → Bool) (x : V) (y : V) (H : Hp) (Q : VK) : Prop
  | mk (d e : _) : (Den K H x d) → (Den K H y e) → (SeqAt.shaped d = true) → (SeqAt.shaped e = true) → (Q (.bl (f (PyData.eqv d e))) H) → rDenI K f x y H Q
def rDen (K : PySem.W.Frag) (f : Bool → Bool) : V → V → Hp → VK → Prop := fun x y H Q => rDenI K f x y H Q
theorem op_eqD {X : Cx} (hu : X.A.units + 64 < cLine) : OpR X (compareOp .Eq) (rDen X.K fun b => b) := by
  rintro pins s σ H x y v u Q I rx ry ⟨d, e, D1, D2, s1, s2, q⟩
  obtain ⟨as, r1⟩ := D1.reads I rx
  obtain ⟨bs, r2⟩ := D2.reads I ry
  exact eq_dataH r1 r2 s1 s2 hu ⟨.bl _, H, I, rfl, q⟩
theorem op_neD {X : Cx} (hu : X.A.units + 64 < cLine) : OpR X (compareOp .NotEq) (rDen X.K fun b => !b) := by
  rintro pins s σ H x y v u Q I rx ry ⟨d, e, D1, D2, s1, s2, q⟩
  obtain ⟨as, r1⟩ := D1.reads I rx
  obtain ⟨bs, r2⟩ := D2.reads I ry
  exact ne_dataH r1 r2 s1 s2 hu ⟨.bl _, H, I, rfl, q⟩

/-! ### isinstance(x, C) -/
/-! ### an exception that was caught: its class, its methods -/
section
variable {X : Cx} {CX : CXT} {k : Nat} {f C : Addr} {fd : FuncData} {ps : List Str} {sp : Sp} {dvs : List V} {ds : List Value} {E : XK} {m : Str} {pos apos : Pos} {o : Expr} {ta : TE}
end

section
variable {K : PySem.W.Frag} {prog : Program} {w : World} {A : Around} {E : Value → Shared → Prop} {hh : Heap} {g : Array GenState} {d : Drawn} {t : Nat} {os : OsState} {a C : Addr} {tk : Tok}
end
/-! ### f-strings whose words do not matter -/
section
variable {X : Cx} {es : List Expr} {n : Nat} {pos : Pos}
end
end L2
namespace L2
open PySem PySem.Spec PyProof.Rows XL

/-! ### a list comprehension: its block runs over cells of the def's own names -/
section
variable {prog : Program} {w : World} {A : Around} {R : Result → Shared → Prop} {s : Shared}
theorem compLoop_go {elt target iter : Expr} {ifs : List Expr} {scope : Scope} {pos : Pos} {it acc : Value} {env : Env} (I : Nat → Shared → Prop)
    (turn : ∀ n s, I n s → wpAny (model prog w) A (pyNext it) (fun r s₁ => match r with
      | none => R (.ok .next) s₁
      | some v => wpAny (model prog w) A (letOwnedTupleGo target it v) (fun _ s₁' => wpAny (model prog w) A (assign target env v) (fun _ s₂ =>
          wpAny (model prog w) A (forIn ifs true fun c r => if r = true then do let ok ← isTrue c env (eval c env); pure (ForInStep.yield ok) else pure (ForInStep.yield r)) (fun ok s₃ =>
            if ok = true then wpAny (model prog w) A (eval elt env) (fun x s₄ =>
              wpAny (model prog w) A (call (.builtin "list.append") [acc, x]) (fun _ s₅ => ∃ m, m < n ∧ I m s₅) (fun _ _ => False) s₄) (fun _ _ => False) s₃
            else ∃ m, m < n ∧ I m s₃) (fun _ _ => False) s₂) (fun _ _ => False) s₁') (fun _ _ => False) s₁) (fun _ _ => False) s)
    (n : Nat) (h : I n s) : codeAny (model prog w) A (.compLoop (.ListComp elt [⟨target, iter, ifs, 0⟩] scope pos) 0 it acc env) R s := by
  refine codeAny_loop rfl I (fun n s hI => ?_) n h
  show wpAny _ A ((compTurn (.ListComp elt [⟨target, iter, ifs, 0⟩] scope pos) 0 it acc env).onRaise (fun x => do noteFrame x env; theTreesLotGoes x)) _ _ s
  refine wpAny_noted ?_
  rw [compTurn_list]
  refine wpAny_bind (wpAny_standAt (wpAny_bind (wpAny_mono (turn n s hI) (fun r s₁ h₁ => ?_) fun _ _ h' => h'.elim)))
  cases r with
  | none => exact wpAny_pure h₁
  | some v =>
    refine wpAny_bind (wpAny_mono h₁ (fun _ s₁' h₁' => ?_) fun _ _ h' => h'.elim)
    refine wpAny_bind (wpAny_mono h₁' (fun _ s₂ h₂ => wpAny_bind (wpAny_mono h₂ (fun ok s₃ h₃ => ?_) fun _ _ h' => h'.elim)) fun _ _ h' => h'.elim)
    cases ok with
    | false => exact wpAny_pure ⟨rfl, h₃⟩
    | true =>
      exact wpAny_bind (wpAny_bind (wpAny_mono h₃ (fun x s₄ h₄ => wpAny_bind (wpAny_mono h₄ (fun _ s₅ h₅ => wpAny_pure (wpAny_pure ⟨rfl, h₅⟩)) fun _ _ h' => h'.elim)) fun _ _ h' => h'.elim))
end

theorem closure_ok {scope : Scope} {env : Env} (h : ∀ x, (x, NameKind.free) ∈ scope.names → ∃ c, env.cells.lookup x = some c) :
    ∃ cl, closureFor scope env = pure cl ∧ (∀ x c, cl.lookup x = some c → env.cells.lookup x = some c) ∧ ∀ x, (x, NameKind.free) ∈ scope.names → ∃ c, cl.lookup x = some c := by
  simp only [closureFor]
  suffices q : ∀ (names : List (Str × NameKind)) (cs : List (Str × Addr)), (∀ x c, cs.lookup x = some c → env.cells.lookup x = some c) → (∀ x, (x, NameKind.free) ∈ names → ∃ c, env.cells.lookup x = some c) →
      ∃ cl, (forIn names cs fun x r => if (x.2 == NameKind.free) = true then do let a ← cellOf env x.1; pure (ForInStep.yield ((x.1, a) :: r)) else pure (ForInStep.yield r)) = (pure cl : Sem (List (Str × Addr))) ∧
        (∀ x c, cl.lookup x = some c → env.cells.lookup x = some c) ∧ (∀ x, (x, NameKind.free) ∈ names → ∃ c, cl.lookup x = some c) ∧ ∀ x c, cs.lookup x = some c → ∃ c', cl.lookup x = some c' by
    obtain ⟨cl, e, a, b, _⟩ := q scope.names [] (fun x c z => by cases z) h
    refine ⟨cl, ?_, a, b⟩
    show (forIn scope.names [] _ >>= fun r => pure r) = _
    refine Eq.trans (congrArg (fun t => t >>= fun r => pure r) e) rfl
  intro names
  induction names with
  | nil => exact fun cs hcs _ => ⟨cs, rfl, hcs, fun x z => (nomatch z), fun x c z => ⟨c, z⟩⟩
  | cons y r ih =>
    intro cs hcs hr
    obtain ⟨n, k⟩ := y
    rw [List.forIn_cons]
    by_cases hk : (k == NameKind.free) = true
    · have hk' : k = .free := by simpa using hk
      subst hk'
      obtain ⟨c, hc⟩ := hr n List.mem_cons_self
      obtain ⟨cl, e, a, b, d⟩ := ih ((n, c) :: cs) (fun x c' z => by
        rw [List.lookup_cons] at z
        cases hx : x == n with
        | true => rw [hx] at z; cases z; have : x = n := by simpa using hx
                  rw [this]; exact hc
        | false => rw [hx] at z; exact hcs x c' z) fun x z => hr x (List.mem_cons_of_mem _ z)
      refine ⟨cl, ?_, a, fun x z => ?_, fun x c' z => ?_⟩
      · rw [← e]
        have : cellOf env n = pure c := by unfold cellOf; rw [hc]
        rw [if_pos hk, this]
        rfl
      · rcases List.mem_cons.mp z with z | z
        · cases z
          exact d n c (by simp)
        · exact b x z
      · cases hx : x == n with
        | true => exact d x c (by rw [List.lookup_cons, hx])
        | false => exact d x c' (by rw [List.lookup_cons, hx]; exact z)
    · obtain ⟨cl, e, a, b, d⟩ := ih cs hcs fun x z => hr x (List.mem_cons_of_mem _ z)
      refine ⟨cl, ?_, a, fun x z => ?_, d⟩
      · rw [← e, if_neg hk]
        rfl
      · rcases List.mem_cons.mp z with z | z
        · cases z
          exact absurd rfl hk
        · exact b x z

theorem lookup_relabel_free {env : Env} : ∀ {names : List (Str × NameKind)} {x : Str}, names.lookup x = some .free →
    (names.map fun (n, k) => if (k == NameKind.free && env.scope.kind == .function && env.kindOf n == some .cell) then (n, NameKind.cell) else (n, k)).lookup x = some .cell ∨
    (names.map fun (n, k) => if (k == NameKind.free && env.scope.kind == .function && env.kindOf n == some .cell) then (n, NameKind.cell) else (n, k)).lookup x = some .free
  | [], _, h => by simp at h
  | (n, k) :: r, x, h => by
    have ih := @lookup_relabel_free env r x
    rw [List.map_cons]
    dsimp only
    cases hx : x == n with
    | true =>
      simp only [List.lookup_cons, hx] at h
      cases h
      by_cases hc : (NameKind.free == NameKind.free && env.scope.kind == .function && env.kindOf n == some .cell) = true
      · rw [if_pos hc]; left; simp [List.lookup_cons, hx]
      · rw [if_neg hc]; right; simp [List.lookup_cons, hx]
    | false =>
      simp only [List.lookup_cons, hx] at h
      by_cases hc : (k == NameKind.free && env.scope.kind == .function && env.kindOf n == some .cell) = true
      · rw [if_pos hc]; simp only [List.lookup_cons, hx]; exact ih h
      · rw [if_neg hc]; simp only [List.lookup_cons, hx]; exact ih h
theorem relabel_was_free {env : Env} : ∀ {names : List (Str × NameKind)} {x : Str} {q : NameKind}, (∀ y ∈ names, y.2 ≠ .cell) → (q = .cell ∨ q = .free) →
    (names.map fun (n, k) => if (k == NameKind.free && env.scope.kind == .function && env.kindOf n == some .cell) then (n, NameKind.cell) else (n, k)).lookup x = some q → (x, NameKind.free) ∈ names
  | [], _, _, _, _, h => by simp at h
  | (n, k) :: r, x, q, hn, hq, h => by
    have ih := @relabel_was_free env r x q (fun y hy => hn y (List.mem_cons_of_mem _ hy)) hq
    rw [List.map_cons] at h
    dsimp only at h
    cases hx : x == n with
    | true =>
      have e : x = n := by simpa using hx
      subst e
      by_cases hc : (k == NameKind.free && env.scope.kind == .function && env.kindOf x == some .cell) = true
      · have : k = .free := by
          cases k <;> first | rfl | (exfalso; revert hc; simp; done)
        subst this
        exact List.mem_cons_self
      · rw [if_neg hc] at h
        simp only [List.lookup_cons, hx] at h
        cases h
        rcases hq with rfl | rfl
        · exact absurd rfl (hn _ List.mem_cons_self)
        · exact List.mem_cons_self
    | false =>
      by_cases hc : (k == NameKind.free && env.scope.kind == .function && env.kindOf n == some .cell) = true
      · rw [if_pos hc] at h; simp only [List.lookup_cons, hx] at h; exact List.mem_cons_of_mem _ (ih h)
      · rw [if_neg hc] at h; simp only [List.lookup_cons, hx] at h; exact List.mem_cons_of_mem _ (ih h)

/-- the block's context: its own names, then those of the def's that it reads (in cells) -/
def compCx (X : Cx) (own caps : List Str) (scope : Scope) (cl : List (Str × Addr)) (C : Addr) (fp : List Addr) (s₃ : Shared) (H₃ : Hp) : Cx where
  prog := X.prog
  w := X.w
  K := X.K
  mg := X.mg
  base := X.base
  A := X.A
  N := own ++ caps
  s₀ := s₃
  H₀ := H₃
  env := compEnvC scope cl C X.env
  outer := X.stack
  stack := X.stack
  ex := fp
  fn := fun _ => false
  calm := X.calm
  pn := []
  xe := fun _ _ => False
/-- the block's names at a turn's begin: the own ones are not known -/
def capv (n : Nat) (cs : List Nat) (σ : St) : St := List.replicate n none ++ cs.map fun i => σ.getD i none
/-- the tests -/
def PF (X : Cx) (ifs : List Expr) (t : TT) : Prop :=
  ∀ (pins : List (Addr × Obj)) (s : Shared) (σ : St) (H : Hp) (Q : Bool → Hp → Prop), Inv X pins σ H s → t σ H Q →
    wpAny (model X.prog X.w) X.A (forIn ifs true fun c r => if r = true then do let ok ← isTrue c X.env (eval c X.env); pure (ForInStep.yield ok) else pure (ForInStep.yield r)) (TP X pins σ Q) X.xe s
def tNoIf : TT := fun _ H Q => Q true H
theorem noIf {σ : St} {H : Hp} {A B : Bool → Hp → Prop} (h : A true H) : tNoIf σ H (fun b H3 => if b = true then A b H3 else B b H3) := by
  show if true = true then A true H else B true H
  rw [if_pos rfl]
  exact h
theorem pf_nil {X : Cx} : PF X [] tNoIf := fun pins s σ H Q I h => wpAny_tests_nil ⟨H, I, h⟩
theorem pf_one {X : Cx} {c : Expr} {t : TT} (h : PT X c t) : PF X [c] t := fun pins s σ H Q I q => wpAny_tests_one (h pins s σ H Q I q)

/-- n: how many own names; cs: the slots that are read. W: the word by the turn, a measure and what is laid so far -/
def CompW (J : It) (n : Nat) (cs : List Nat) (σ : St) (g : TG) (tc : TT) (te : TE) (Q : VK) (H1 : Hp) (D : Addr) : Prop := ∃ W : Nat → Nat → List V → Hp → Prop, (∃ m, W 0 m [] (upd H1 D (.lst []))) ∧
  ∀ i m ys H, W i m ys H → (J.stop i H ∧ Q (.ref D) H) ∨ (J.go i H ∧ ∀ x H', J.yld i H x H' → g x (capv n cs σ) H' fun σ2 H2 => σ2.drop n = cs.map (fun i => σ.getD i none) ∧
    tc σ2 H2 fun b H3 => if b = true then te σ2 H3 fun y H4 => H4 D = some (.lst ys) ∧ ys.length < sizeLine ∧ ∃ m', m' < m ∧ W (i + 1) m' (ys ++ [y]) (upd H4 D (.lst (ys ++ [y]))) else ∃ m', m' < m ∧ W (i + 1) m' ys H3)
def tComp (n : Nat) (cs : List Nat) (wi : TI) (g : TG) (tc : TT) (te : TE) : TE := fun σ H Q => wi σ H fun J H1 => ∀ D, H1 D = none → CompW J n cs σ g tc te Q H1 D

structure CompSc (X : Cx) (sc : Scope) (own caps : List Str) (cs : List Nat) (scope : Scope) : Prop where
  scp : X.env.scope = sc
  kind : scope.kind = .function
  nocell : ∀ y ∈ scope.names, y.2 ≠ .cell
  names : ∀ y ∈ scope.names, y.2 = .local → scope.names.lookup y.1 = some .local
  free : ∀ y ∈ scope.names, y.2 = .free → sc.names.lookup y.1 = some .cell
  capf : ∀ x ∈ caps, scope.names.lookup x = some .free
  slots : cs.map (fun i => X.N[i]?) = caps.map some

section
variable {X : Cx} {sc scope : Scope} {own caps : List Str} {cs : List Nat} {tg elt iter : Expr} {ifs : List Expr} {wi : TI} {g : TG} {tc : TT} {te : TE} {pos : Pos} {E : Value → Shared → Prop}

theorem comp_core {pins : List (Addr × Obj)} {σ : St} {H : Hp} {s : Shared} {it : Addr} {fp : List Addr} {tn : Nat → Heap → Prop} {J : It} {cl : List (Str × Addr)} {RR : Value → Addr → Result → Shared → Prop} {Q : VK}
    (S : CompSc X sc own caps cs scope) (hc : X.calm = true) (hg : ∀ C fp s₃ H₃, PG (compCx X own caps scope cl C fp s₃ H₃) tg g) (ht : ∀ C fp s₃ H₃, PF (compCx X own caps scope cl C fp s₃ H₃) ifs tc)
    (he : ∀ C fp s₃ H₃, PE (compCx X own caps scope cl C fp s₃ H₃) elt te)
    (cl1 : ∀ x c, cl.lookup x = some c → X.env.cells.lookup x = some c) (cl2 : ∀ x, (x, NameKind.free) ∈ scope.names → ∃ c, cl.lookup x = some c)
    (I : Inv X pins σ H s) (T : Turn X.prog X.w X.K tg J fp it tn) (st : tn 0 s.heap) (f : ∀ b ∈ fp, FpOk X pins H b)
    (h : ∀ D, H D = none → CompW J own.length cs σ g tc te Q H D)
    (hRR : ∀ D C s' H', Inv X pins σ H' s' → (∃ m, s'.heap.Ns C m) → FpOk X pins H' C → Q (.ref D) H' → RR (.ref D) C (.ok .next) s') :
    wpAny (model X.prog X.w) X.A (newList []) (fun acc s₃ => wpAny (model X.prog X.w) X.A (newFunctionEnv scope X.env.globals cl [] X.env.qual none .none (some X.env)) (fun cenv s₄ =>
      codeAny (model X.prog X.w) X.A (.compStart (.ListComp elt [⟨tg, iter, ifs, 0⟩] scope pos) 0 (.ref it) acc { cenv with scope := relabel scope X.env }) (RR acc cenv.locals) s₄) E s₃) E s := by
  refine wpAny_newObj_type (wpAny_newFunctionEnv S.nocell (by intro y hy; simp at hy) (fun h₁ hns₁ hsb₁ => ?_) S.kind)
  dsimp only at hns₁ hsb₁ ⊢
  obtain ⟨W, ⟨m0, w0⟩, turn⟩ := h s.heap.objs.size I.fresh
  have I3 : Inv X pins σ (upd H s.heap.objs.size (.lst [])) { s with heap := s.heap.push { cls := .type "list", dict := none, data := .seq ([] : List Value).toArray } } :=
    I.lnew (its := []) (t' := s.toks) .nil (Nat.zero_le _)
  generalize hD : s.heap.objs.size = D at *
  generalize hH2 : s.heap.push { cls := .type "list", dict := none, data := .seq ([] : List Value).toArray } = h2 at hns₁ hsb₁ I3 ⊢
  generalize hH3 : upd H D (.lst []) = H3 at I3 w0
  have h3n : ∀ b, b ≠ D → H3 b = H b := fun b hb => by rw [← hH3, upd_ne hb]
  have kept : ∀ b o, h2.get? b = some o → h₁.get? b = some o := fun b o e => hsb₁.extBut b o (Nat.ne_of_lt (Heap.lt_size e)) (Heap.get?_push_of_some _ e)
  have k0 : ∀ b o, s.heap.get? b = some o → h2.get? b = some o := fun b o e => by rw [← hH2]; exact Heap.get?_push_of_some _ e
  have fpl : ∀ b ∈ fp, b < s.heap.objs.size := fun b hb => by
    obtain ⟨o, e, _⟩ := T.obj 0 _ st b hb
    exact Heap.lt_size e
  have hszC : h2.objs.size = D + 1 := by rw [← hH2, Heap.size_push, hD]
  generalize hCC : h2.objs.size = C at *
  have fpC : ∀ b ∈ fp, b ≠ C ∧ b ≠ D := fun b hb => by
    have := fpl b hb
    rw [hD] at this
    exact ⟨Nat.ne_of_lt (Nat.lt_of_lt_of_le this (by rw [hszC]; exact Nat.le_succ _)), Nat.ne_of_lt this⟩
  -- the block's context is one
  have okY : (compCx X own caps scope cl C fp { s with heap := h2 } H3).Ok := by
    have J3 := I3.ok
    refine ⟨J3.mod, S.kind, J3.glob, J3.blt, (Nat.le_of_eq hCC), fun x y c a b => J3.inj x y c (cl1 x c a) (cl1 y c b), fun x hx => ?_, fun x c z => (by cases z), J3.hd, J3.frames, .inl rfl, fun b hb => ⟨(fpC b hb).1, fun x c e => (f b hb).2.2.2.2.1 x c (cl1 x c e)⟩,
      fun b o e => I3.bs b o e, (Nat.le_trans J3.bsz I3.sz), fun b o e hb => ?_, fun b hb z => ?_, I3.stack, I3.stkFree⟩
    · refine cl2 x ?_
      rcases hx with hx | hx
      · exact relabel_was_free S.nocell (.inl rfl) hx
      · exact relabel_was_free S.nocell (.inr rfl) hx
    · rcases (f b hb).2.2.2.1 with z | z
      · exact J3.noex b o e z
      · exact absurd (Nat.lt_of_lt_of_le (Heap.lt_size e) (Nat.le_trans J3.bsz z)) (Nat.lt_irrefl _)
    · rcases List.mem_cons.mp (I3.stkSub b z) with z | z
      · exact (f b hb).2.1 z
      · exact (f b hb).2.2.1 z
  have slotN : ∀ (i : Nat) (x : Str), (own ++ caps)[i]? = some x → own.length ≤ i → ∃ j, cs[i - own.length]? = some j ∧ X.N[j]? = some x := fun i x e hi => by
    rw [List.getElem?_append_right hi] at e
    have z := congrArg (fun l => l[i - own.length]?) S.slots
    simp only [List.getElem?_map, e, Option.map_some] at z
    cases q : cs[i - own.length]? with
    | none => rw [q] at z; cases z
    | some j => rw [q] at z; exact ⟨j, rfl, Option.some.inj z⟩
  have csl : cs.length = caps.length := by simpa using congrArg List.length S.slots
  have IY : Inv (compCx X own caps scope cl C fp { s with heap := h2 } H3) [] (capv own.length cs σ) H3 { s with heap := h₁, toks := s.toks + ([] : List (Str × Value)).length } := by
    refine ⟨okY, rfl, I3.bare, Un.kept kept, ⟨_, hns₁, fun i x v e1 e2 e3 => ?_⟩, fun x c e => ?_, I3.hok.fresh (Nat.le_of_eq hCC), fun x c e => I3.freeC x c (cl1 x c e), fun p hp => absurd (show p ∈ ([] : List (Addr × Obj)) from hp) (by simp), I3.hok.kept kept, ?_⟩
    · have hi : own.length ≤ i := by
        refine Nat.le_of_not_lt fun z => ?_
        unfold capv at e2
        rw [List.getElem?_append_left (by simpa using z), List.getElem?_replicate, if_pos z] at e2
        cases e2
      obtain ⟨j, ej, en⟩ := slotN i x e1 hi
      unfold capv at e2
      rw [List.getElem?_append_right (by simpa using hi), List.length_replicate, List.getElem?_map, ej] at e2
      have e2' : σ.getD j none = some v := by simpa using e2
      have e2'' : σ[j]? = some (some v) := by
        rw [List.getD_eq_getElem?_getD] at e2'
        cases q : σ[j]? with
        | none => rw [q] at e2'; cases e2'
        | some z => rw [q] at e2'; exact congrArg some e2'
      have hx : x ∈ caps := by
        have e1' : (own ++ caps)[i]? = some x := e1
        rw [List.getElem?_append_right hi] at e1'
        exact List.mem_of_getElem? e1'
      have hf := S.capf x hx
      have hcell : X.env.scope.names.lookup x = some .cell := by
        rw [S.scp]
        exact S.free (x, .free) (PySem.mem_of_lookup hf) rfl
      obtain ⟨m, hn, hl⟩ := I3.loc
      obtain ⟨u, ru, lk⟩ := hl j x v en e2'' (.inr (.inl hcell))
      refine ⟨u, ru, .inr ⟨lookup_relabel_free hf, ?_⟩⟩
      obtain ⟨c, hc'⟩ := cl2 x (PySem.mem_of_lookup hf)
      refine ⟨c, hc', ?_⟩
      rcases lk with ⟨k, _⟩ | ⟨_, c', e', z⟩
      · rw [show X.env.kindOf x = X.env.scope.names.lookup x from rfl, hcell] at k
        cases k
      · rw [cl1 x c hc'] at e'
        cases e'
        obtain ⟨o, ho, hd⟩ := z
        exact ⟨o, kept _ _ ho, hd⟩
    · obtain ⟨v, o, ho, hd⟩ := I3.cell x c (cl1 x c e)
      exact ⟨v, o, kept _ _ ho, hd⟩
    · show (capv own.length cs σ).length = (own ++ caps).length
      unfold capv
      simp [csl]
  -- the iterator's objects, through the block
  have stat : ∀ {H' : Hp}, (∀ b ∈ fp, H' b = none) → ∀ b ∈ fp, FpOk (compCx X own caps scope cl C fp { s with heap := h2 } H3) [] H' b := fun hn b hb =>
    ⟨hn b hb, (fpC b hb).1, okY.exfs b hb, .inl hb, fun x c e => (f b hb).2.2.2.2.1 x c (cl1 x c e), fun p hp => absurd (show p ∈ ([] : List (Addr × Obj)) from hp) (by simp)⟩
  have hst₁ : tn 0 h₁ := T.keep _ _ _ st fun b _ o e => kept b o (k0 b o e)
  have loop : ∀ s₃ : Shared, s₃ = { s with heap := h₁, toks := s.toks + ([] : List (Str × Value)).length } →
      codeAny (model X.prog X.w) X.A (.compLoop (.ListComp elt [⟨tg, iter, ifs, 0⟩] scope pos) 0 (.ref it) (.ref D) (compEnvC scope cl C X.env)) (RR (.ref D) C) s₃ := by
    rintro s₃ rfl
    refine compLoop_go (fun n s' => ∃ i ys H', Inv (compCx X own caps scope cl C fp { s with heap := h2 } H3) [] (capv own.length cs σ) H' s' ∧ tn i s'.heap ∧ (∀ b ∈ fp, H' b = none) ∧ W i n ys H') ?_ m0
      ⟨0, [], H3, IY, hst₁, fun b hb => by rw [h3n b (fpC b hb).2]; exact (f b hb).1, w0⟩
    rintro n s5 ⟨i, ys, H5, I5, st5, fr5, w5⟩
    rcases turn i n ys H5 w5 with ⟨stop, q⟩ | ⟨go, step⟩
    · refine thn (T.done (compCx X own caps scope cl C fp { s with heap := h2 } H3) rfl rfl rfl hc i [] s5 _ H5 _ I5 (stat fr5) st5 stop) fun r s6 ⟨hr, I6⟩ => ?_
      subst hr
      have IX : Inv X pins σ H5 s6 := I3.call' (ch := fp) I6.os I6.base I6.hok I6.bare fun b hb => ⟨(f b hb).2.2.2.1, (f b hb).2.1, (f b hb).2.2.2.2.1, (f b hb).2.2.2.2.2⟩
      obtain ⟨m6, hn6, _⟩ := I6.loc
      exact hRR D C s6 H5 IX ⟨m6, hn6⟩ (I3.fpOk (b := C) (Nat.le_of_eq hCC) I6.free) q
    · refine thn (T.item (compCx X own caps scope cl C fp { s with heap := h2 } H3) rfl rfl rfl hc i [] s5 _ H5 _ I5 (stat fr5) st5 go) fun r s6 ⟨u, hr, h6⟩ => ?_
      subst hr
      refine thn h6 fun _ s7 ⟨x, H7, I7, r7, y7, st7, fr7⟩ => ?_
      have I7' := I7.pinned (stat fr7) (T.obj _ _ st7)
      refine thn (hg C fp _ _ _ s7 _ H7 x u _ I7' r7 (step x H7 y7)) fun _ s8 ⟨σ8, H8, I8, dr8, q8⟩ => ?_
      have again : ∀ {s' : Shared} {H' : Hp} {ys' : List V}, Inv (compCx X own caps scope cl C fp { s with heap := h2 } H3) ([] ++ pinsAt fp s7.heap) σ8 H' s' → (∃ m', m' < n ∧ W (i + 1) m' ys' H') →
          ∃ m, m < n ∧ ∃ i ys H', Inv (compCx X own caps scope cl C fp { s with heap := h2 } H3) [] (capv own.length cs σ) H' s' ∧ tn i s'.heap ∧ (∀ b ∈ fp, H' b = none) ∧ W i m ys H' := fun {s' H' ys'} I9 ⟨m', hm, w9⟩ => by
        have l8 : σ8.length = own.length + cs.length := by have := I9.len; rw [this]; show (own ++ caps).length = _; simp [csl]
        refine ⟨m', hm, i + 1, ys', H', (I9.unpinned).weak (by unfold capv; simp [l8]) (fun j v ej => ?_), T.keep _ _ _ st7 fun b hb o e => (I9.pin (b, o) (List.mem_append_right _ (List.mem_append_right _ (mem_pinsAt hb e)))).1, fun b hb => ?_, w9⟩
        · have hj : own.length ≤ j := by
            refine Nat.le_of_not_lt fun z => ?_
            unfold capv at ej
            rw [List.getElem?_append_left (by simpa using z), List.getElem?_replicate, if_pos z] at ej
            cases ej
          unfold capv at ej
          rw [List.getElem?_append_right (by simpa using hj), List.length_replicate, ← dr8, List.getElem?_drop] at ej
          rw [show own.length + (j - own.length) = j by (first | lia | omega)] at ej
          exact ej
        · obtain ⟨o, e, d⟩ := T.obj _ _ st7 b hb
          exact (I9.pin (b, o) (List.mem_append_right _ (List.mem_append_right _ (mem_pinsAt hb e)))).2.1
      refine thn (ht C fp _ _ _ s8 σ8 H8 _ I8 q8) fun b s9 ⟨H9, I9, q9⟩ => ?_
      cases b with
      | false =>
        rw [if_neg Bool.false_ne_true] at q9 ⊢
        exact again I9 q9
      | true =>
        rw [if_pos rfl] at q9 ⊢
        refine thn (he C fp _ _ _ s9 σ8 H9 _ I9 q9) fun xv s10 ⟨y, H10, I10, r10, hD10, hlen, q10⟩ => ?_
        refine thn (mt_append (X := compCx X own caps scope cl C fp { s with heap := h2 } H3) _ s10 σ8 H10 (.ref D) [y] (.ref D) [xv] (fun _ H' => H' = upd H10 D (.lst (ys ++ [y]))) I10 rfl (.cons r10 .nil) ⟨D, ys, y, rfl, rfl, hD10, hlen, rfl⟩) fun _ s11 ⟨_, H11, I11, _, e11⟩ => ?_
        subst e11
        exact again I11 q10
  exact codeAny_compStart_list (loop _ rfl) (T.self _ 0 _ _ _ hst₁ (loop _ rfl))

theorem hClos (S : CompSc X sc own caps cs scope) (ok : X.Ok) : ∀ x, (x, NameKind.free) ∈ scope.names → ∃ c, X.env.cells.lookup x = some c := fun x hx => ok.has x (.inl (by
  show X.env.scope.names.lookup x = some .cell
  rw [S.scp]
  exact S.free (x, .free) hx rfl))
/-- [elt for tg in iter if c] -/
theorem pe_comp {g : List (Str × Addr) → Addr → List Addr → Shared → Hp → TG} {tc : List (Str × Addr) → Addr → List Addr → Shared → Hp → TT} {te : List (Str × Addr) → Addr → List Addr → Shared → Hp → TE} (S : CompSc X sc own caps cs scope) (hc : X.calm = true) (hi : PI X tg iter wi) (hg : ∀ cl C fp s₃ H₃, PG (compCx X own caps scope cl C fp s₃ H₃) tg (g cl C fp s₃ H₃)) (ht : ∀ cl C fp s₃ H₃, PF (compCx X own caps scope cl C fp s₃ H₃) ifs (tc cl C fp s₃ H₃))
    (he : ∀ cl C fp s₃ H₃, PE (compCx X own caps scope cl C fp s₃ H₃) elt (te cl C fp s₃ H₃)) (hge : ∀ cl C fp s₃ H₃, g cl C fp s₃ H₃ = g [] 0 [] X.s₀ X.H₀ := by intros; rfl) (hte : ∀ cl C fp s₃ H₃, tc cl C fp s₃ H₃ = tc [] 0 [] X.s₀ X.H₀ := by intros; rfl)
    (hee : ∀ cl C fp s₃ H₃, te cl C fp s₃ H₃ = te [] 0 [] X.s₀ X.H₀ := by intros; rfl) (hs : ∀ x, foldedSetIterable iter X.env x = pure x := by intro _; rfl) :
    PE X (.ListComp elt [⟨tg, iter, ifs, 0⟩] scope pos) (tComp own.length cs wi (g [] 0 [] X.s₀ X.H₀) (tc [] 0 [] X.s₀ X.H₀) (te [] 0 [] X.s₀ X.H₀)) := by
  intro pins s σ H Q I h
  obtain ⟨cl, hcl, cl1, cl2⟩ := closure_ok (hClos S I.ok)
  rw [eval_ListComp]
  refine wpAny_comprehension_free (use := none) rfl hs hcl S.kind S.names (thn (hi pins s σ H _ I h) fun v s1 h1 => thn h1 fun itv s2 h2 => ?_)
  obtain ⟨it, fp, tn, J, H2, rfl, I2, T, st2, f2, h2⟩ := h2
  refine comp_core (RR := fun acc C => compPost (model X.prog X.w) X.A X.xe none (EP X pins σ Q) acc C) S hc (fun C fp s₃ H₃ => hge cl C fp s₃ H₃ ▸ hg cl C fp s₃ H₃) (fun C fp s₃ H₃ => hte cl C fp s₃ H₃ ▸ ht cl C fp s₃ H₃) (fun C fp s₃ H₃ => hee cl C fp s₃ H₃ ▸ he cl C fp s₃ H₃) cl1 cl2 I2 T st2 f2 h2 ?_
  intro D C s' H' I' hm hf q
  obtain ⟨m, hn⟩ := hm
  obtain ⟨f0, f1, f2, f3, f4, f5⟩ := hf
  exact ⟨m, hn, fun h' hs' => ⟨.ref D, H', I'.turned (t' := s'.toks) (it := C) (fun b o hb e => (hs'.2 b hb).trans e) f0 f1 f3 f4 f5, rfl, q⟩⟩
/-- y = [elt for tg in iter if c], all in a row -/
theorem ps_comp {g : List (Str × Addr) → Addr → List Addr → Shared → Hp → TG} {tc : List (Str × Addr) → Addr → List Addr → Shared → Hp → TT} {te : List (Str × Addr) → Addr → List Addr → Shared → Hp → TE} {i : Nat} {y : Str} {py spos : Pos} (S : CompSc X sc own caps cs scope) (hc : X.calm = true) (hN : X.N.Nodup) (hyi : X.N[i]? = some y) (hy : X.env.scope.names.lookup y = some .local)
    (hsw : swapsWith (.ListComp elt [⟨tg, iter, ifs, 0⟩] scope pos) (some (.Name y py)) spos.line X.env = pure true)
    (hi : PI X tg iter wi) (hg : ∀ cl C fp s₃ H₃, PG (compCx X own caps scope cl C fp s₃ H₃) tg (g cl C fp s₃ H₃)) (ht : ∀ cl C fp s₃ H₃, PF (compCx X own caps scope cl C fp s₃ H₃) ifs (tc cl C fp s₃ H₃))
    (he : ∀ cl C fp s₃ H₃, PE (compCx X own caps scope cl C fp s₃ H₃) elt (te cl C fp s₃ H₃)) (hge : ∀ cl C fp s₃ H₃, g cl C fp s₃ H₃ = g [] 0 [] X.s₀ X.H₀ := by intros; rfl) (hte : ∀ cl C fp s₃ H₃, tc cl C fp s₃ H₃ = tc [] 0 [] X.s₀ X.H₀ := by intros; rfl)
    (hee : ∀ cl C fp s₃ H₃, te cl C fp s₃ H₃ = te [] 0 [] X.s₀ X.H₀ := by intros; rfl) (hs : ∀ x, foldedSetIterable iter X.env x = pure x := by intro _; rfl) :
    PS X (.Assign [.Name y py] (.ListComp elt [⟨tg, iter, ifs, 0⟩] scope pos) spos) (tAsg (tComp own.length cs wi (g [] 0 [] X.s₀ X.H₀) (tc [] 0 [] X.s₀ X.H₀) (te [] 0 [] X.s₀ X.H₀)) (gName i)) := by
  intro pins s σ H D I h
  obtain ⟨cl, hcl, cl1, cl2⟩ := closure_ok (hClos S I.ok)
  rw [exec_Assign_Name_used _ _ _ _ hsw]
  refine wpAny_bind (wpAny_standAt (wpAny_bind ?_))
  show wpAny _ X.A (do let _ ← comprehension (.ListComp elt [⟨tg, iter, ifs, 0⟩] scope pos) scope X.env _ (newList []) false (eval iter X.env) (some (assign (.Name y py) X.env))) _ _ s
  refine wpAny_bind (wpAny_mono (wpAny_comprehension_free (use := some (assign (.Name y py) X.env)) (Q := fun _ s' => SP X pins D .next s') rfl hs hcl S.kind S.names
    (thn (hi pins s σ H _ I h) fun v s1 h1 => thn h1 fun itv s2 h2 => ?_)) (fun _ s' hq => wpAny_pure (wpAny_pure hq)) fun _ _ e => e)
  obtain ⟨it, fp, tn, J, H2, rfl, I2, T, st2, f2, h2⟩ := h2
  refine comp_core (Q := fun x H1 => gName i x σ H1 D.nx) (RR := fun acc C => compPost (model X.prog X.w) X.A X.xe (some (assign (.Name y py) X.env)) (fun _ s' => SP X pins D .next s') acc C) S hc (fun C fp s₃ H₃ => hge cl C fp s₃ H₃ ▸ hg cl C fp s₃ H₃) (fun C fp s₃ H₃ => hte cl C fp s₃ H₃ ▸ ht cl C fp s₃ H₃) (fun C fp s₃ H₃ => hee cl C fp s₃ H₃ ▸ he cl C fp s₃ H₃) cl1 cl2 I2 T st2 f2 h2 ?_
  intro Dl C s' H' I' hm hf q
  obtain ⟨m, hn⟩ := hm
  obtain ⟨f0, f1, f2, f3, f4, f5⟩ := hf
  show wpAny _ X.A (assign (.Name y py) X.env (.ref Dl)) _ _ _
  refine wpAny_assign_Name (store_ok2 I' hN hyi (.inl hy) (v := .ref Dl) rfl (fun s3 I3 ⟨a, sb, ha⟩ => ?_) (.inr hy))
  have hCa : C ≠ a := by
    rcases ha with rfl | ha
    · exact f1
    · exact Ne.symm (f4 _ _ ha)
  refine ⟨m, hn.sameBut sb hCa, fun h' hs' => ⟨_, H', I3.turned (t' := s3.toks) (it := C) (fun b o hb e => (hs'.2 b hb).trans e) f0 f1 f3 f4 f5, q⟩⟩
end
@[elab_as_elim] theorem len1 {α : Type} {C : List α → Prop} (h : ∀ a, C [a]) : ∀ us : List α, us.length = 1 → C us
  | [a], _ => h a
@[elab_as_elim] theorem len2 {α : Type} {C : List α → Prop} (h : ∀ a b, C [a, b]) : ∀ us : List α, us.length = 2 → C us
  | [a, b], _ => h a b
@[elab_as_elim] theorem len3 {α : Type} {C : List α → Prop} (h : ∀ a b c, C [a, b, c]) : ∀ us : List α, us.length = 3 → C us
  | [a, b, c], _ => h a b c
@[elab_as_elim] theorem len4 {α : Type} {C : List α → Prop} (h : ∀ a b c d, C [a, b, c, d]) : ∀ us : List α, us.length = 4 → C us
  | [a, b, c, d], _ => h a b c d
end L2
namespace L2
open PySem PySem.Spec PyProof.Rows XL

section
variable {X : Cx} {pins : List (Addr × Obj)} {σ : St} {H H' : Hp} {s : Shared} {h' : Heap}
/-- several untracked records of ours have turned -/
theorem Inv.turnedN {t' : Nat} {ch : List Addr} (I : Inv X pins σ H s) (k : ∀ b o, b ∉ ch → s.heap.get? b = some o → h'.get? b = some o) (f : ∀ b ∈ ch, FpOk X pins H b) : Inv X pins σ H { s with heap := h', toks := t' } := by
  have nit : ∀ b u, H b = some u → b ∉ ch := fun b u e z => by rw [(f b z).1] at e; cases e
  refine I.step (g' := s.gens) (d' := s.drawn) (ch := ch) (fun b hb => ?_) (fun b o _ _ hc e _ => k b o hc e) (fun b o _ _ hc e _ => ⟨o.slots, k b o hc e⟩) (fun _ _ _ _ n => n)
    (fun b o hc e => ⟨o, k b o hc e⟩) (fun _ _ e => e) (fun _ _ _ e => e) (fun b ps e => ⟨#[], by rw [e]; simp⟩) (fun m hm => ?_) (fun b u e => ?_) I.bare
  · obtain ⟨f0, f1, f2, f3, f4, f5⟩ := f b hb
    exact ⟨f3, f1, f4, f5⟩
  · obtain ⟨o, es, ep, ho, r⟩ := hm
    exact ⟨o, es, ep, k _ o (fun z => (f _ z).2.1 rfl) ho, r⟩
  · refine (I.hok b u e).stay (fun c v hc q => k c v ?_ q) (fun _ q => q) fun _ _ q => q
    rcases hc with z | z
    · rw [z]; exact nit b u e
    · exact nit c _ z
/-- a tuple that was laid there is tracked -/
theorem Inv.trackTup {T : Addr} {xs : List V} {its : List Value} (I : Inv X pins σ H s) (f : FpOk X pins H T) (h0 : X.s₀.heap.get? T = none) (hz : xs.length ≤ sizeLine) (r : Vals xs its) (e : IsTup s.heap T its.toArray) : Inv X pins σ (upd H T (.tup xs)) s := by
  obtain ⟨f0, f1, f2, f3, f4, f5⟩ := f
  exact I.track f0 h0 f1 f4 f5 ⟨hz, its, r, e⟩
end

/-- zip of two lists, as they stand at each turn: a new pair -/
def Itz (K : PySem.W.Frag) (l1 l2 : Addr) : It :=
  ⟨fun i H => ∃ xs ys x y, SqL K H l1 xs ∧ SqL K H l2 ys ∧ xs[i]? = some x ∧ ys[i]? = some y,
   fun i H v H' => ∃ T, v = .ref T ∧ H T = none ∧ ∀ xs ys x y, SqL K H l1 xs → SqL K H l2 ys → xs[i]? = some x → ys[i]? = some y → H' = upd H T (.tup [x, y]),
   fun i H => ∃ xs ys, SqL K H l1 xs ∧ SqL K H l2 ys ∧ (xs.length ≤ i ∨ ys.length ≤ i)⟩
/-- enumerate of a list -/
def Ite (K : PySem.W.Frag) (l : Addr) : It :=
  ⟨fun i H => ∃ xs x, SqL K H l xs ∧ xs[i]? = some x,
   fun i H v H' => ∃ T, v = .ref T ∧ H T = none ∧ ∀ xs x, SqL K H l xs → xs[i]? = some x → H' = upd H T (.tup [.int i, x]),
   fun i H => ∃ xs, SqL K H l xs ∧ xs.length ≤ i⟩

theorem zip_apart {h : Heap} {z TI TO i1 i2 l1 l2 : Addr} {f0 a b : Value} {k1 k2 : Nat} {xs ys : Array Value} (hz : IsZip h z TI TO f0) (hTI : IsPair h TI (.ref i1) (.ref i2)) (hTO : IsPair h TO a b) (h1 : h.IsListIter i1 l1 k1) (h2 : h.IsListIter i2 l2 k2)
    (n12 : i1 ≠ i2) (nT : TI ≠ TO) (q1 : h.IsList l1 xs) (q2 : h.IsList l2 ys) : ZipApart z TI TO i1 i2 l1 l2 := by
  obtain ⟨o1, e1, c1, d1⟩ := h1
  obtain ⟨o2, e2, c2, d2⟩ := h2
  obtain ⟨p1, g1, cc1, n1, dd1⟩ := q1
  obtain ⟨p2, g2, cc2, n2, dd2⟩ := q2
  have ne : ∀ {a b : Addr} {o p : Obj} {n m : String}, h.get? a = some o → h.get? b = some p → o.cls = .type n → p.cls = .type m → n ≠ m → a ≠ b := fun {a b o p n m} ea eb ca cb nm q => by
    subst q
    rw [ea] at eb
    cases eb
    rw [ca] at cb
    cases cb
    exact nm rfl
  exact ⟨ne hTI hz rfl rfl (by decide), ne hTO hz rfl rfl (by decide), ne e1 hz c1 rfl (by decide), ne e2 hz c2 rfl (by decide), nT, ne hTI e1 rfl c1 (by decide), ne hTI e2 rfl c2 (by decide), ne hTO e1 rfl c1 (by decide), ne hTO e2 rfl c2 (by decide), n12,
    ne g1 hz cc1 rfl (by decide), ne g1 hTO cc1 rfl (by decide), ne g1 e1 cc1 c1 (by decide), ne g1 e2 cc1 c2 (by decide), ne g2 hz cc2 rfl (by decide), ne g2 hTO cc2 rfl (by decide), ne g2 e1 cc2 c1 (by decide), ne g2 e2 cc2 c2 (by decide)⟩

theorem turn_zip {P : Program} {w : World} {K : PySem.W.Frag} {es : List Expr} {x1} {tp : Pos} (l1 l2 z TI TO i1 i2 : Addr) (n12 : i1 ≠ i2) (nT : TI ≠ TO) : Turn P w K (.Tuple es x1 tp) (Itz K l1 l2) [z, TI, TO, i1, i2] z
    (fun i h => IsZip h z TI TO .none ∧ IsPair h TI (.ref i1) (.ref i2) ∧ (∃ a b, IsPair h TO a b) ∧ h.IsListIter i1 l1 i ∧ h.IsListIter i2 l2 i) where
  mem := by simp
  obj := fun i h ⟨hz, hTI, ⟨a, b, hTO⟩, ⟨o1, e1, c1, d1⟩, ⟨o2, e2, c2, d2⟩⟩ b hb => by
    simp at hb
    rcases hb with rfl | rfl | rfl | rfl | rfl
    · exact ⟨_, hz, fun v z => by cases z⟩
    · exact ⟨_, hTI, fun v z => by cases z⟩
    · exact ⟨_, hTO, fun v z => by cases z⟩
    · exact ⟨_, e1, fun v z => by rw [d1] at z; cases z⟩
    · exact ⟨_, e2, fun v z => by rw [d2] at z; cases z⟩
  keep := fun i h h' ⟨hz, hTI, ⟨a, b, hTO⟩, h1, h2⟩ k => ⟨k z (by simp) _ hz, k TI (by simp) _ hTI, ⟨a, b, k TO (by simp) _ hTO⟩, h1.at fun o e => k i1 (by simp) o e, h2.at fun o e => k i2 (by simp) o e⟩
  item := by
    intro X hP hw hK hc i pins s σ H E I hf st hg
    subst hP hw hK
    obtain ⟨hz, hTI, ⟨a, b, hTO⟩, h1, h2⟩ := st
    obtain ⟨xs, ys, x, y, hq1, hq2, hx, hy⟩ := hg
    obtain ⟨its1, rv1, p1, hz1⟩ := I.list hq1
    obtain ⟨u1, hu1, ru1⟩ := rv1.get hx
    obtain ⟨its2, rv2, p2, hz2⟩ := I.list hq2
    obtain ⟨u2, hu2, ru2⟩ := rv2.get hy
    have D := zip_apart hz hTI hTO h1 h2 n12 nT p1.isList p2.isList
    refine wpAny_pyNext_zip_item D hz hTI hTO h1 h2 p1.isList p2.isList (x := u1) (y := u2) (by simpa using hu1) (by simpa using hu2) fun h' a1 a2 a3 a4 a5 a6 kk => ?_
    refine ⟨_, rfl, wpAny_letOwnedTupleGo_zip (s := { s with heap := h' }) a1 fun h'' z1 sb => ?_⟩
    have kz : ∀ c o, c ∉ [z, TI, TO, i1, i2] → s.heap.get? c = some o → h''.get? c = some o := fun c o hc e => sb.extBut c o (fun q => hc (by simp [q])) (kk c o (fun q => hc (by simp [q])) (fun q => hc (by simp [q])) (fun q => hc (by simp [q])) (fun q => hc (by simp [q])) e)
    have I1 : Inv X pins σ H { s with heap := h'' } := I.turnedN (t' := s.toks) (ch := [z, TI, TO, i1, i2]) kz hf
    have fr : FpOk X pins H s.heap.objs.size := I.fpOk (Nat.le_refl _) I.fresh
    have nz : s.heap.objs.size ≠ z := Nat.ne_of_gt (Heap.lt_size hz)
    have tup : IsPair h'' s.heap.objs.size u1 u2 := sb.extBut _ _ nz a5
    have I2 : Inv X pins σ (upd H s.heap.objs.size (.tup [x, y])) { s with heap := h'' } := I1.trackTup (its := [u1, u2]) fr (by
        cases q : X.s₀.heap.get? s.heap.objs.size with
        | none => rfl
        | some o => exact absurd (Nat.lt_of_lt_of_le (Heap.lt_size q) I.sz) (Nat.lt_irrefl _)) (by show 2 ≤ sizeLine; rw [sizeLine_eq]; decide) (.cons ru1 (.cons ru2 .nil)) ⟨_, tup, rfl, 0, rfl⟩
    refine ⟨.ref s.heap.objs.size, _, I2, rfl, ⟨_, rfl, fr.1, fun xs' ys' x' y' e1 e2 e3 e4 => ?_⟩, ⟨z1, sb.extBut _ _ D.TIz (kk _ _ D.TIz D.TITO D.TIi1 D.TIi2 hTI), ⟨_, _, sb.extBut _ _ D.TOz a2⟩, a3.extBut sb.extBut D.i1z, a4.extBut sb.extBut D.i2z⟩, fun b hb => ?_⟩
    · rw [I.list_inj e1 hq1, hx] at e3
      rw [I.list_inj e2 hq2, hy] at e4
      cases e3
      cases e4
      rfl
    · have nb : b ≠ s.heap.objs.size := by
        have lt : ∀ {c o}, s.heap.get? c = some o → c ≠ s.heap.objs.size := fun e => Nat.ne_of_lt (Heap.lt_size e)
        obtain ⟨o1, e1, _⟩ := h1
        obtain ⟨o2, e2, _⟩ := h2
        simp at hb
        rcases hb with rfl | rfl | rfl | rfl | rfl
        · exact lt hz
        · exact lt hTI
        · exact lt hTO
        · exact lt e1
        · exact lt e2
      rw [upd_ne nb]
      exact (hf b hb).1
  done := by
    intro X hP hw hK hc i pins s σ H E I hf st hg
    subst hP hw hK
    obtain ⟨hz, hTI, ⟨a, b, hTO⟩, h1, h2⟩ := st
    obtain ⟨xs, ys, hq1, hq2, hend⟩ := hg
    obtain ⟨its1, rv1, p1, hz1⟩ := I.list hq1
    obtain ⟨its2, rv2, p2, hz2⟩ := I.list hq2
    have D := zip_apart hz hTI hTO h1 h2 n12 nT p1.isList p2.isList
    have l1' := rv1.length
    have l2' := rv2.length
    refine wpAny_pyNext_zip_end (I.ok.hd hc) D hz hTI hTO h1 h2 p1.isList p2.isList (by rcases hend with q | q; exact .inl (by simp; (first | lia | omega)); exact .inr (by simp; (first | lia | omega))) fun h' kk => ⟨rfl, ?_⟩
    exact I.turnedN (t' := s.toks) (ch := [z, TI, TO, i1, i2]) (fun c o hc e => kk c o (fun q => hc (by simp [q])) (fun q => hc (by simp [q])) (fun q => hc (by simp [q])) (fun q => hc (by simp [q])) e) hf
  self := fun _ _ _ _ _ st h => wpAny_pyIter_zip st.1 h

theorem turn_enum {P : Program} {w : World} {K : PySem.W.Frag} {es : List Expr} {x1} {tp : Pos} (l e it : Addr) (n12 : e ≠ it) : Turn P w K (.Tuple es x1 tp) (Ite K l) [e, it] e
    (fun i h => (∃ old, IsEnum h e it i old) ∧ h.IsListIter it l i) where
  mem := by simp
  obj := fun i h ⟨⟨old, he⟩, ⟨o1, e1, c1, d1⟩⟩ b hb => by
    simp at hb
    rcases hb with rfl | rfl
    · exact ⟨_, he, fun v z => by cases z⟩
    · exact ⟨_, e1, fun v z => by rw [d1] at z; cases z⟩
  keep := fun i h h' ⟨⟨old, he⟩, h1⟩ k => ⟨⟨old, k e (by simp) _ he⟩, h1.at fun o q => k it (by simp) o q⟩
  item := by
    intro X hP hw hK hc i pins s σ H E I hf st hg
    subst hP hw hK
    obtain ⟨⟨old, he⟩, h1⟩ := st
    obtain ⟨xs, x, hq1, hx⟩ := hg
    obtain ⟨its1, rv1, p1, hz1⟩ := I.list hq1
    obtain ⟨u1, hu1, ru1⟩ := rv1.get hx
    refine wpAny_pyNext_enum_item he h1 p1.isList (x := u1) (by simpa using hu1) n12 fun h' a1 a3 a5 a6 kk => ?_
    refine ⟨_, rfl, wpAny_letOwnedTupleGo_enum (s := { s with heap := h', toks := s.toks + 1 }) a1 fun h'' z1 sb => ?_⟩
    have kz : ∀ c o, c ∉ [e, it] → s.heap.get? c = some o → h''.get? c = some o := fun c o hc q => sb.extBut c o (fun q => hc (by simp [q])) (kk c o (fun q => hc (by simp [q])) (fun q => hc (by simp [q])) q)
    have I1 : Inv X pins σ H { s with heap := h'', toks := s.toks + 1 } := I.turnedN (t' := s.toks + 1) (ch := [e, it]) kz hf
    have fr : FpOk X pins H s.heap.objs.size := I.fpOk (Nat.le_refl _) I.fresh
    have nz : s.heap.objs.size ≠ e := Nat.ne_of_gt (Heap.lt_size he)
    have tup : h''.get? s.heap.objs.size = some { cls := .type "tuple", data := .seq #[.int i s.toks, u1] } := sb.extBut _ _ nz a5
    have I2 : Inv X pins σ (upd H s.heap.objs.size (.tup [.int i, x])) { s with heap := h'', toks := s.toks + 1 } := I1.trackTup (its := [.int i s.toks, u1]) fr (by
        cases q : X.s₀.heap.get? s.heap.objs.size with
        | none => rfl
        | some o => exact absurd (Nat.lt_of_lt_of_le (Heap.lt_size q) I.sz) (Nat.lt_irrefl _)) (by show 2 ≤ sizeLine; rw [sizeLine_eq]; decide) (.cons ⟨_, rfl⟩ (.cons ru1 .nil)) ⟨_, tup, rfl, 0, rfl⟩
    refine ⟨.ref s.heap.objs.size, _, I2, rfl, ⟨_, rfl, fr.1, fun xs' x' e1 e3 => ?_⟩, ⟨⟨_, z1⟩, a3.extBut sb.extBut (Ne.symm n12)⟩, fun b hb => ?_⟩
    · rw [I.list_inj e1 hq1, hx] at e3
      cases e3
      rfl
    · have nb : b ≠ s.heap.objs.size := by
        have lt : ∀ {c o}, s.heap.get? c = some o → c ≠ s.heap.objs.size := fun e => Nat.ne_of_lt (Heap.lt_size e)
        obtain ⟨o1, e1, _⟩ := h1
        simp at hb
        rcases hb with rfl | rfl
        · exact lt he
        · exact lt e1
      rw [upd_ne nb]
      exact (hf b hb).1
  done := by
    intro X hP hw hK hc i pins s σ H E I hf st hg
    subst hP hw hK
    obtain ⟨⟨old, he⟩, h1⟩ := st
    obtain ⟨xs, hq1, hend⟩ := hg
    obtain ⟨its1, rv1, p1, hz1⟩ := I.list hq1
    have l1' := rv1.length
    refine wpAny_pyNext_enum_end (I.ok.hd hc) he h1 p1.isList (by simp; (first | lia | omega)) fun h' kk => ⟨rfl, ?_⟩
    exact I.turnedN (t' := s.toks) (ch := [e, it]) (fun c o hc q => kk c o (fun q => hc (by simp [q])) q) hf
  self := fun _ _ _ _ _ st h => wpAny_pyIter_enum st.1.choose_spec h

theorem boot_zip : bootBuiltins "zip" = some (.type "zip") := by decide +kernel
theorem boot_enum : bootBuiltins "enumerate" = some (.type "enumerate") := by decide +kernel

section
variable {X : Cx} {es : List Expr} {x1 : Nat} {tp : Pos}
def iZip (K : PySem.W.Frag) (ta : TA) : TI := fun σ H R => ta σ H fun vs H1 => ∃ l1 l2 xs ys, vs = [.ref l1, .ref l2] ∧ SqL K H1 l1 xs ∧ SqL K H1 l2 ys ∧ R (Itz K l1 l2) H1
def iEnum (K : PySem.W.Frag) (ta : TA) : TI := fun σ H R => ta σ H fun vs H1 => ∃ l xs, vs = [.ref l] ∧ SqL K H1 l xs ∧ R (Ite K l) H1
theorem pi_zip {a b : Expr} {ta : TA} {p pos : Pos} (hg : Gl X "zip") (hm : X.mg "zip" = none) (ha : PA X [a, b] ta) (hs : starEach [a, b] X.env = [(false, eval a X.env), (false, eval b X.env)] := by rfl) (hs2 : starEach [b] X.env = [(false, eval b X.env)] := by rfl) :
    PI X (.Tuple es x1 tp) (.Call (.Name "zip" p) [a, b] [] pos) (iZip X.K ta) := by
  intro pins s σ H R I h
  refine Call_ (ld_blt I hg hm boot_zip (PyProof.Rows.callWith_type1 (thn (ha pos pins s σ H _ I h) fun us s1 ⟨vs, H1, I1, r1, q1⟩ => ?_) (by rw [hs, hs2]) (by rw [hs2]; rfl)))
  obtain ⟨l1, l2, xs, ys, e, hx, hy, q⟩ := q1
  subst e
  cases r1 with
  | cons r rr =>
    cases rr with
    | cons r' rr =>
      cases rr
      cases r
      cases r'
      obtain ⟨its1, rv1, p1, hz1⟩ := I1.list hx
      obtain ⟨its2, rv2, p2, hz2⟩ := I1.list hy
      refine call_zip_2 p1.isList p2.isList fun h' a1 a2 a3 a4 a5 a6 kk => wpAny_pyIter_zip a1 ?_
      refine ⟨_, _, _, _, H1, rfl, I1.kept (t' := s1.toks) kk, turn_zip l1 l2 (s1.heap.objs.size + 4) (s1.heap.objs.size + 2) (s1.heap.objs.size + 3) s1.heap.objs.size (s1.heap.objs.size + 1) (Nat.ne_of_lt (Nat.lt_succ_self _)) (Nat.ne_of_lt (Nat.lt_succ_self _)), ⟨a1, a2, ⟨_, _, a3⟩, a4, a5⟩, fun b hb => ?_, q⟩
      have hb' : s1.heap.objs.size ≤ b := by
        simp at hb
        rcases hb with rfl | rfl | rfl | rfl | rfl
        · exact Nat.le_add_right _ 4
        · exact Nat.le_add_right _ 2
        · exact Nat.le_add_right _ 3
        · exact Nat.le_refl _
        · exact Nat.le_add_right _ 1
      exact I1.fpOk hb' (I1.hok.fresh hb')
theorem pi_enum {a : Expr} {ta : TA} {p pos : Pos} (hg : Gl X "enumerate") (hm : X.mg "enumerate" = none) (ha : PA X [a] ta) (hs : starEach [a] X.env = [(false, eval a X.env)] := by rfl) :
    PI X (.Tuple es x1 tp) (.Call (.Name "enumerate" p) [a] [] pos) (iEnum X.K ta) := by
  intro pins s σ H R I h
  refine Call_ (ld_blt I hg hm boot_enum (PyProof.Rows.callWith_type1 (thn (ha pos pins s σ H _ I h) fun us s1 ⟨vs, H1, I1, r1, q1⟩ => ?_) hs rfl))
  obtain ⟨l, xs, e, hx, q⟩ := q1
  subst e
  cases r1 with
  | cons r rr =>
    cases rr
    cases r
    obtain ⟨its1, rv1, p1, hz1⟩ := I1.list hx
    refine call_enumerate_list p1.isList fun h' a1 a2 a6 kk => wpAny_pyIter_enum a1 ?_
    refine ⟨_, _, _, _, H1, rfl, I1.kept (t' := s1.toks) kk, turn_enum l (s1.heap.objs.size + 1) s1.heap.objs.size (Nat.ne_of_gt (Nat.lt_succ_self _)), ⟨⟨_, a1⟩, a2⟩, fun b hb => ?_, q⟩
    have hb' : s1.heap.objs.size ≤ b := by
      simp at hb
      rcases hb with rfl | rfl
      · exact Nat.le_add_right _ 1
      · exact Nat.le_refl _
    exact I1.fpOk hb' (I1.hok.fresh hb')
end

/-! ### the forms one uses -/
theorem Same.rfl' {H : Hp} : Same H H := fun _ _ e => e
theorem Same.tr {H H1 H2 : Hp} (a : Same H H1) (b : Same H1 H2) : Same H H2 := fun x o e => b x o (a x o e)
theorem Same.new {H H1 : Hp} {D : Addr} {o : HO} (a : Same H H1) (hn : H D = none) : Same H (upd H1 D o) := fun b u e => by
  rw [upd_ne (ne_of_none e hn)]
  exact a b u e
/-- a comprehension that writes nothing but its own list: what lies there behind i turns -/
theorem comp_ext {J : It} {n : Nat} {H1 : Hp} {D : Addr} {g : TG} {tc : TT} {te : TE} {k : Nat} {cs : List Nat} {σ : St} {Q : VK} (hD : H1 D = none) (ys : Nat → List V) (y0 : ys 0 = []) (hl : ∀ i, i < n → (ys i).length < sizeLine)
    (step : ∀ i H, i < n → Same H1 H → H D = some (.lst (ys i)) → J.go i H ∧ ∀ (K1 : VK) (K2 : Hp → Prop), (∀ y H4, Same H H4 → ys (i + 1) = ys i ++ [y] → K1 y H4) → (∀ H3, Same H H3 → ys (i + 1) = ys i → K2 H3) →
      ∀ x H', J.yld i H x H' → g x (capv k cs σ) H' fun σ2 H2 => σ2.drop k = cs.map (fun i => σ.getD i none) ∧ tc σ2 H2 fun b H3 => if b = true then te σ2 H3 K1 else K2 H3)
    (fin : ∀ H, Same H1 H → H D = some (.lst (ys n)) → J.stop n H ∧ Q (.ref D) H) : CompW J k cs σ g tc te Q H1 D := by
  refine ⟨fun i m zs H => m = n - i ∧ i ≤ n ∧ zs = ys i ∧ Same H1 H ∧ H D = some (.lst zs), ⟨n, by simp, Nat.zero_le _, y0.symm, Same.rfl'.new hD, upd_same⟩, ?_⟩
  rintro i m zs H ⟨rfl, hi, rfl, sm, hDi⟩
  by_cases hlt : i < n
  · obtain ⟨go, st⟩ := step i H hlt sm hDi
    refine .inr ⟨go, st _ _ (fun v H4 s4 e4 => ?_) (fun H3 s3 e3 => ?_)⟩
    · exact ⟨s4 _ _ hDi, hl i hlt, n - (i + 1), by (first | lia | omega), rfl, hlt, e4.symm, (sm.tr s4).new hD, upd_same⟩
    · exact ⟨n - (i + 1), by (first | lia | omega), rfl, hlt, e3.symm, sm.tr s3, s3 _ _ hDi⟩
  · have e : i = n := by (first | lia | omega)
    subst e
    exact .inl (fin H sm hDi)

theorem comp_ext0 {J : It} {n : Nat} {H1 : Hp} {D : Addr} {g : TG} {te : TE} {k : Nat} {cs : List Nat} {σ : St} {Q : VK} (hD : H1 D = none) (ys : Nat → List V) (y0 : ys 0 = []) (hl : ∀ i, i < n → (ys i).length < sizeLine)
    (step : ∀ i H, i < n → Same H1 H → H D = some (.lst (ys i)) → J.go i H ∧ ∀ (K1 : VK), (∀ y H4, Same H H4 → ys (i + 1) = ys i ++ [y] → K1 y H4) →
      ∀ x H', J.yld i H x H' → g x (capv k cs σ) H' fun σ2 H2 => σ2.drop k = cs.map (fun i => σ.getD i none) ∧ te σ2 H2 K1)
    (fin : ∀ H, Same H1 H → H D = some (.lst (ys n)) → J.stop n H ∧ Q (.ref D) H) : CompW J k cs σ g tNoIf te Q H1 D := by
  refine comp_ext hD ys y0 hl (fun i H hi sm hDi => ?_) fin
  obtain ⟨go, st⟩ := step i H hi sm hDi
  exact ⟨go, fun K1 K2 k1 k2 x H' y => st K1 k1 x H' y⟩

/-! ### built-ins over lists -/
theorem ints_are : ∀ {ns : List Int} {its : List Value}, Vals (ns.map V.int) its → IntsAre its ns
  | [], _, .nil => .nil
  | n :: ns, _, .cons r t => by
    obtain ⟨k, rfl⟩ := r
    exact .cons n k (ints_are t)
theorem of_ints : ∀ {ns : List Int} {its : List Value}, IntsAre its ns → Vals (ns.map V.int) its
  | _, _, .nil => .nil
  | _, _, .cons n t r => .cons ⟨t, rfl⟩ (of_ints r)
section
variable {X : Cx}
theorem vals_bools {bs : List Bool} {its : List Value} (r : Vals (bs.map V.bl) its) : its = bs.map Value.bool := by
  induction bs generalizing its with
  | nil => cases r; rfl
  | cons b bs ih =>
    cases r with
    | cons r t => cases r; rw [ih t]; rfl
theorem truth_bools {prog : Program} {w : World} {A : Around} {bs : List Bool} : TruthOf prog w A (fun i v => (bs.map Value.bool).toArray[i]? = some v) (fun i => bs.getD i false) := fun i v s Q E hP hQ => by
  have e : bs[i]?.map Value.bool = some v := by simpa using hP
  cases q : bs[i]? with
  | none => rw [q] at e; cases e
  | some b =>
    rw [q] at e
    cases e
    have : bs.getD i false = b := by rw [List.getD_eq_getElem?_getD, q]; rfl
    exact wpAny_pure (this ▸ hQ)
theorem range_all {bs : List Bool} : (List.range bs.length).all (fun i => bs.getD i false) = bs.all id := by
  rw [Bool.eq_iff_iff, List.all_eq_true, List.all_eq_true]
  constructor
  · intro h b hb
    obtain ⟨i, hi, e⟩ := List.mem_iff_getElem.mp hb
    have := h i (List.mem_range.mpr hi)
    rw [List.getD_eq_getElem?_getD, List.getElem?_eq_getElem hi, e] at this
    exact this
  · intro h i hi
    have hi := List.mem_range.mp hi
    rw [List.getD_eq_getElem?_getD, List.getElem?_eq_getElem hi]
    exact h _ (List.getElem_mem hi)
theorem kept_it {s : Shared} {l : Addr} {h' : Heap} (hk : ∀ b o, b ∉ [s.heap.objs.size] → (s.heap.push { cls := .type "list_iterator", data := .fields #[.ref l, .int 0 0] }).get? b = some o → h'.get? b = some o) :
    ∀ b o, s.heap.get? b = some o → h'.get? b = some o := fun b o e => by
  refine hk b o (fun hm => ?_) (Heap.get?_push_of_some _ e)
  rcases List.mem_cons.mp hm with e1 | hm
  · exact absurd (e1 ▸ Heap.lt_size e) (Nat.lt_irrefl _)
  · cases hm
theorem call_allB (hc : X.calm = true) : CallR X (.builtin "all") (fun xs H Q => ∃ (p : Addr) (bs : List Bool), xs = [.ref p] ∧ SqL X.K H p (bs.map V.bl) ∧ Q (.bl (bs.all id)) H) := by
  intro pins s σ H xs us Q I r h
  obtain ⟨p, bs, rfl, hp, q⟩ := h
  obtain ⟨u, rfl, ru⟩ := r.one
  cases ru
  obtain ⟨its, rv, pl, hz⟩ := I.list hp
  have e := vals_bools rv
  subst e
  have hlt : p < s.heap.objs.size := by obtain ⟨_, e, _⟩ := pl.isList; exact Heap.lt_size e
  refine call_all_walk (wpAny_pyIter_list pl.isList ?_)
  refine ⟨_, _, _, _, _, _, fun i => bs.getD i false, rfl, Walks.list (A := X.A.in1) (I.ok.hd hc) _ p (Nat.ne_of_lt hlt) _, ⟨⟨_, Heap.get?_push_size _ rfl, rfl, rfl⟩, pl.isList.push _⟩, truth_bools, fun h' tk hk => ?_⟩
  refine ⟨.bl (bs.all id), H, I.kept (kept_it hk), ?_, q⟩
  show Value.bool _ = Value.bool _
  rw [List.size_toArray, List.length_map, range_all]
theorem ints_get {its : List Value} {ns : List Int} (h : IntsAre its ns) : ∀ i v, its.toArray[i]? = some v → ∃ t, v = Value.int (ns.getD i 0) t := by
  suffices q : ∀ i v, its[i]? = some v → ∃ t, v = Value.int (ns.getD i 0) t from fun i v e => q i v (by simpa using e)
  induction h with
  | nil => intro i v e; simp at e
  | cons n t _ ih =>
    intro i v e
    cases i with
    | zero => simp at e; exact ⟨t, by simp [← e]⟩
    | succ i => simpa using ih i v (by simpa using e)
theorem call_sumI (hc : X.calm = true) : CallR X (.builtin "sum") (fun xs H Q => ∃ (p : Addr) (ns : List Int), xs = [.ref p] ∧ SqL X.K H p (ns.map V.int) ∧ (∀ j, j ≤ ns.length → InLong ((ns.take j).sum)) ∧ (∀ n ∈ ns, InLong n) ∧ Q (.int ns.sum) H) := by
  intro pins s σ H xs us Q I r h
  obtain ⟨p, ns, rfl, hp, h1, h2, q⟩ := h
  obtain ⟨u, rfl, ru⟩ := r.one
  cases ru
  obtain ⟨its, rv, pl, hz⟩ := I.list hp
  have hI := ints_are rv
  have hlen := hI.length
  have hlt : p < s.heap.objs.size := by obtain ⟨_, e, _⟩ := pl.isList; exact Heap.lt_size e
  refine call_sum_walk (wpAny_pyIter_list pl.isList ?_)
  refine ⟨_, _, _, _, _, _, fun i => ns.getD i 0, rfl, Walks.list (A := X.A.in1) (I.ok.hd hc) _ p (Nat.ne_of_lt hlt) _, ⟨⟨_, Heap.get?_push_size _ rfl, rfl, rfl⟩, pl.isList.push _⟩, fun b hb => ?_, ints_get hI, fun j hj => ?_, fun h' tk t' hk => ?_⟩
  · show b < (s.heap.push _).objs.size
    rw [Heap.size_push]
    rcases List.mem_cons.mp hb with rfl | hb
    · exact Nat.lt_succ_self _
    · rcases List.mem_cons.mp hb with rfl | hb
      · exact Nat.lt_succ_of_lt hlt
      · cases hb
  · have hj : j < ns.length := by rw [← hlen]; simpa using hj
    rw [preSum_getD]
    refine ⟨?_, h1 _ hj⟩
    show InLong (ns.getD j 0)
    rw [List.getD_eq_getElem?_getD, List.getElem?_eq_getElem hj]
    exact h2 _ (List.getElem_mem hj)
  · refine ⟨.int ns.sum, H, I.kept (kept_it hk), ⟨t', ?_⟩, q⟩
    rw [preSum_getD, List.size_toArray, hlen, List.take_length]
def distinct (ns : List Int) : List Int := firstMet (fun i => ns.getD i 0) ns.length
theorem call_setI (hc : X.calm = true) : CallR X (.type "set") (fun xs H Q => ∃ (p : Addr) (ns : List Int), xs = [.ref p] ∧ SqL X.K H p (ns.map V.int) ∧ ns.length + 1 < scanBound ∧ ∀ d, H d = none → Q (.ref d) (upd H d (.set (fun k => (distinct ns).any (· == k)) (distinct ns).length))) := by
  intro pins s σ H xs us Q I r h
  obtain ⟨p, ns, rfl, hp, h1, q⟩ := h
  obtain ⟨u, rfl, ru⟩ := r.one
  cases ru
  obtain ⟨its, rv, pl, hz⟩ := I.list hp
  have hI := ints_are rv
  have hlen := hI.length
  have hsz : its.toArray.size = ns.length := by rw [List.size_toArray, hlen]
  refine PySem.call_set_list (ns := ns) (I.ok.hd hc) pl.isList (by simpa using hI) (by rw [hsz]; exact h1) fun h' tk hS hk => ?_
  rw [hsz] at hS
  exact ⟨.ref s.heap.objs.size, _, I.laid (o := .set (fun k => (distinct ns).any (· == k)) (distinct ns).length) (fun b o e => hk b o (Heap.lt_size e) e) (Nat.le_refl _) hS, rfl, q _ I.fresh⟩
theorem call_lenSet : CallR X (.builtin "len") (fun xs H Q => ∃ a S n, xs = [.ref a] ∧ H a = some (.set S n) ∧ (n : Int) < 2 ^ 63 ∧ Q (.int n) H) := by
  intro pins s σ H xs us Q I r h
  obtain ⟨a, S, n, rfl, ha, hn, q⟩ := h
  obtain ⟨u, rfl, ru⟩ := r.one
  cases ru
  have hS : s.heap.SetOf (intKind X.prog X.w) a S n := I.hok a _ ha
  obtain ⟨o, es, ep, t, e, ex, hd, _, _, _, hf, rfl⟩ := hS
  exact call_len_set e ex hd hf hn ⟨.int es.size, H, I.tok _, ⟨_, rfl⟩, q⟩
theorem call_sortedI : CallR X (.builtin "sorted") (fun xs H Q => ∃ (p : Addr) (ns : List Int), xs = [.ref p] ∧ SqL X.K H p (ns.map V.int) ∧ ns.length < 64 ∧ ∀ (d : Addr) (ns' : List Int), H d = none → ns'.Perm ns → ns'.Pairwise (· ≤ ·) → Q (.ref d) (upd H d (.lst (ns'.map V.int)))) := by
  intro pins s σ H xs us Q I r h
  obtain ⟨p, ns, rfl, hp, h1, q⟩ := h
  obtain ⟨u, rfl, ru⟩ := r.one
  cases ru
  obtain ⟨its, rv, pl, hz⟩ := I.list hp
  have hI := ints_are rv
  have hlen := hI.length
  refine sorted_ints pl.isList hI (by (first | lia | omega)) fun out ns' a1 a2 a3 => ?_
  obtain ⟨e, he⟩ := sortedAll_at s.heap its out
  have hn : H (s.heap.objs.size + 1) = none := I.hok.fresh (Nat.le_succ _)
  refine ⟨.ref (s.heap.objs.size + 1), _, I.laid (t' := s.toks) (fun _ _ => sortedAll_old) (Nat.le_succ _) (a := s.heap.objs.size + 1) (o := .lst (ns'.map V.int)) ⟨?_, out.toList, e, of_ints a1, ?_⟩, rfl, q _ ns' hn a2 a3⟩
  · rw [List.length_map, a2.length_eq, sizeLine_eq]
    (first | lia | omega)
  · rw [he]
end
end L2
namespace L2
open PySem PySem.Spec PyProof.Rows

/-! ### lists of pairs as tables -/
section
variable {κ : Type} [DecidableEq κ]
def valV (kvs : List (κ × V)) (k : κ) : Option V := (kvs.find? fun kv => decide (kv.1 = k)).map (·.2)
/-- in its place, or at the end -/
def putK (kvs : List (κ × V)) (k : κ) (v : V) : List (κ × V) :=
  if (kvs.any fun kv => decide (kv.1 = k)) = true then kvs.map (fun kv => if kv.1 = k then (kv.1, v) else kv) else kvs ++ [(k, v)]
theorem valV_nil {k : κ} : valV ([] : List (κ × V)) k = none := rfl
theorem valV_pos {p : κ × V} {r : List (κ × V)} {k : κ} (e : p.1 = k) : valV (p :: r) k = some p.2 := by simp [valV, List.find?_cons, e]
theorem valV_neg {p : κ × V} {r : List (κ × V)} {k : κ} (e : ¬ p.1 = k) : valV (p :: r) k = valV r k := by simp [valV, List.find?_cons, e]
theorem valV_any (k : κ) : ∀ kvs : List (κ × V), (kvs.any fun kv => decide (kv.1 = k)) = (valV kvs k).isSome
  | [] => rfl
  | p :: r => by
    rw [List.any_cons]
    by_cases e : p.1 = k
    · simp only [valV_pos e, decide_eq_true e, Bool.true_or, Option.isSome_some]
    · rw [valV_neg e, decide_eq_false e, Bool.false_or]; exact valV_any k r
theorem valV_map (k j : κ) (y : V) : ∀ kvs : List (κ × V), valV (kvs.map fun kv => if kv.1 = k then (kv.1, y) else kv) j = (valV kvs j).map fun x => if j = k then y else x
  | [] => rfl
  | p :: r => by
    have ih := valV_map k j y r
    rw [List.map_cons]
    by_cases h : p.1 = k
    · rw [if_pos h]
      by_cases e : p.1 = j
      · rw [valV_pos (p := (p.1, y)) e, valV_pos e, Option.map_some, if_pos (e.symm.trans h)]
      · rw [valV_neg (p := (p.1, y)) e, valV_neg e, ih]
    · rw [if_neg h]
      by_cases e : p.1 = j
      · rw [valV_pos (p := p) e, valV_pos e, Option.map_some, if_neg (fun z => h (e.trans z))]
      · rw [valV_neg (p := p) e, valV_neg e, ih]
theorem valV_snoc (k j : κ) (y : V) : ∀ kvs : List (κ × V), valV kvs k = none → valV (kvs ++ [(k, y)]) j = if j = k then some y else valV kvs j
  | [], _ => by
    by_cases e : k = j
    · rw [if_pos e.symm]; exact valV_pos (p := (k, y)) e
    · rw [if_neg (fun z => e z.symm)]; exact valV_neg (p := (k, y)) e
  | p :: r, hn => by
    rw [List.cons_append]
    have hk : ¬ p.1 = k := fun z => by rw [valV_pos z] at hn; cases hn
    rw [valV_neg hk] at hn
    have ih := valV_snoc k j y r hn
    by_cases e : p.1 = j
    · rw [valV_pos e, valV_pos e, if_neg (fun z => hk (e.trans z))]
    · rw [valV_neg e, valV_neg e, ih]
theorem valV_put (kvs : List (κ × V)) (k j : κ) (y : V) : valV (putK kvs k y) j = if j = k then some y else valV kvs j := by
  unfold putK
  by_cases a : (kvs.any fun kv => decide (kv.1 = k)) = true
  · rw [if_pos a, valV_map]
    rw [valV_any] at a
    by_cases e : j = k
    · obtain ⟨x, hx⟩ := Option.isSome_iff_exists.mp a
      rw [if_pos e, e, hx, Option.map_some, if_pos rfl]
    · rw [if_neg e]
      cases valV kvs j with
      | none => rfl
      | some x => rw [Option.map_some, if_neg e]
  · rw [if_neg a]
    refine valV_snoc k j y kvs ?_
    rw [valV_any] at a
    cases q : valV kvs k with
    | none => rfl
    | some x => rw [q] at a; exact (a rfl).elim
theorem length_putK (kvs : List (κ × V)) (k : κ) (v : V) : (putK kvs k v).length ≤ kvs.length + 1 := by
  unfold putK
  split
  · rw [List.length_map]; (first | lia | omega)
  · rw [List.length_append, List.length_cons, List.length_nil]; (first | lia | omega)
theorem putK_new {kvs : List (κ × V)} {k : κ} (v : V) (h : valV kvs k = none) : putK kvs k v = kvs ++ [(k, v)] := by
  unfold putK
  rw [valV_any, h]
  exact if_neg (by decide)

theorem RelO.isSome_eq {o : Option V} {u : Option Value} (r : RelO o u) : o.isSome = u.isSome := by
  cases o with
  | none => cases u with
    | none => rfl
    | some _ => exact (show False from r).elim
  | some _ => cases u with
    | none => exact (show False from r).elim
    | some _ => rfl
/-- raw tables of the same keys -/
theorem KV.val {kvs : List (κ × V)} {vs : List (κ × Value)} (r : KV kvs vs) (k : κ) : RelO (valV kvs k) (valueAt vs k) := by
  unfold KV at r
  induction r with
  | nil => exact True.intro
  | @cons p q ps qs h t ih =>
    obtain ⟨h1, h2⟩ := h
    by_cases e : p.1 = k
    · have e' : q.1 = k := h1.symm.trans e
      have b : valueAt (q :: qs) k = some q.2 := by simp [valueAt, List.find?_cons, e']
      rw [valV_pos e, b]; exact h2
    · have e' : ¬ q.1 = k := fun z => e (h1.trans z)
      have b : valueAt (q :: qs) k = valueAt qs k := by simp [valueAt, List.find?_cons, e']
      rw [valV_neg e, b]; exact ih
theorem KV.any {kvs : List (κ × V)} {vs : List (κ × Value)} (r : KV kvs vs) (k : κ) : (kvs.any fun kv => decide (kv.1 = k)) = vs.any fun kv => decide (kv.1 = k) := by
  unfold KV at r
  induction r with
  | nil => rfl
  | cons h t ih => rw [List.any_cons, List.any_cons, ih, h.1]
theorem KV.repl {kvs : List (κ × V)} {vs : List (κ × Value)} (r : KV kvs vs) (k : κ) {y : V} {u : Value} (ry : RelV y u) :
    KV (kvs.map fun kv => if kv.1 = k then (kv.1, y) else kv) (vs.map fun kv => if kv.1 = k then (kv.1, u) else kv) := by
  unfold KV at r ⊢
  induction r with
  | nil => exact .nil
  | @cons p q ps qs h t ih =>
    rw [List.map_cons, List.map_cons]
    refine .cons ?_ ih
    obtain ⟨h1, h2⟩ := h
    by_cases e : p.1 = k
    · rw [if_pos e, if_pos (h1.symm.trans e)]; exact ⟨h1, ry⟩
    · rw [if_neg e, if_neg (fun z => e (h1.trans z))]; exact ⟨h1, h2⟩
theorem KV.put {kvs : List (κ × V)} {vs : List (κ × Value)} (r : KV kvs vs) (k : κ) {y : V} {u : Value} (ry : RelV y u) : KV (putK kvs k y) (stored vs k u) := by
  unfold putK stored
  rw [r.any k]
  by_cases e : (vs.any fun kv => decide (kv.1 = k)) = true
  · rw [if_pos e, if_pos e]; exact r.repl k ry
  · rw [if_neg e, if_neg e]; exact Paired.snoc r ⟨rfl, ry⟩
theorem KV.length {kvs : List (κ × V)} {vs : List (κ × Value)} (r : KV kvs vs) : kvs.length = vs.length := Paired.length r
end


/-! ### a tracked dict, its keys ints and texts or tuples of these -/
theorem kV_is {P : Program} {w : World} {k : Key} {u : Value} (r : RelV (kV k) u) : (mixKind P w).is k u = true := by
  cases k with
  | inl i => obtain ⟨t, e⟩ := (show ∃ t, u = Value.int i t from r); subst e; exact mixKind_int P w i t
  | inr x => obtain ⟨t, e⟩ := (show ∃ t, u = Value.str x t from r); subst e; exact mixKind_str P w x t
theorem items_are {P : Program} {w : World} : ∀ {ks : List Key} {us : List Value}, Vals (ks.map kV) us → ItemsAre (mixKind P w) ks us
  | [], _, r => by rw [List.map_nil] at r; cases r; exact .nil
  | k :: ks, _, r => by
    rw [List.map_cons] at r
    cases r with
    | cons h t => exact .cons (kV_is h) (items_are t)

/-- raw entries of a dict with tuple keys -/
abbrev KT (H : Hp) : List (List Key × V) → List (List Key × Addr × Value) → Prop := Paired fun p q => p.1 = q.1 ∧ H q.2.1 = some (.tup (p.1.map kV)) ∧ RelV p.2 q.2.2
theorem KT.val {H : Hp} {kvs : List (List Key × V)} {xs : List (List Key × Addr × Value)} (r : KT H kvs xs) (k : List Key) : RelO (valV kvs k) ((atKey xs k).map (·.2)) := by
  induction r with
  | nil => exact True.intro
  | @cons p q ps qs h t ih =>
    obtain ⟨h1, _, h2⟩ := h
    by_cases e : p.1 = k
    · have e' : q.1 = k := h1.symm.trans e
      have b : atKey (q :: qs) k = some q.2 := by simp [atKey, List.find?_cons, e']
      rw [valV_pos e, b]; exact h2
    · have e' : ¬ q.1 = k := fun z => e (h1.trans z)
      have b : atKey (q :: qs) k = atKey qs k := by simp [atKey, List.find?_cons, e']
      rw [valV_neg e, b]; exact ih
theorem KT.repl {H : Hp} {kvs : List (List Key × V)} {xs : List (List Key × Addr × Value)} (r : KT H kvs xs) (k : List Key) {y : V} {u : Value} (ry : RelV y u) :
    KT H (kvs.map fun kv => if kv.1 = k then (kv.1, y) else kv) (xs.map (putAt k u)) := by
  induction r with
  | nil => exact .nil
  | @cons p q ps qs h t ih =>
    rw [List.map_cons, List.map_cons]
    refine .cons ?_ ih
    obtain ⟨h1, h2, h3⟩ := h
    unfold putAt
    by_cases e : p.1 = k
    · rw [if_pos e, if_pos (h1.symm.trans e)]; exact ⟨h1, h2, ry⟩
    · rw [if_neg e, if_neg (fun z => e (h1.trans z))]; exact ⟨h1, h2, h3⟩
theorem KT.put {H : Hp} {kvs : List (List Key × V)} {xs : List (List Key × Addr × Value)} (r : KT H kvs xs) (k : List Key) {b : Addr} {y : V} {u : Value} (hb : H b = some (.tup (k.map kV))) (ry : RelV y u) :
    KT H (putK kvs k y) (storedH xs k b u) := by
  have e : (kvs.any fun kv => decide (kv.1 = k)) = (atKey xs k).isSome := by
    rw [valV_any, (r.val k).isSome_eq, Option.isSome_map]
  unfold putK storedH
  rw [e]
  by_cases q : (atKey xs k).isSome = true
  · rw [if_pos q, if_pos q]; exact r.repl k ry
  · rw [if_neg q, if_neg q]; exact Paired.snoc r ⟨rfl, hb, ry⟩
theorem KT.keeps {H H' : Hp} {kvs : List (List Key × V)} {xs : List (List Key × Addr × Value)} (r : KT H kvs xs) (ht : ∀ b ys, H b = some (.tup ys) → H' b = some (.tup ys)) : KT H' kvs xs :=
  Paired.mapP r fun _ _ z => ⟨z.1, ht _ _ z.2.1, z.2.2⟩

section
variable {P : Program} {w : World} {H : Hp} {h : Heap} {a : Addr}
theorem rd_of {u : HO} (ok : HOk P w H h) (e : Rd H a u) : ObjOk P w H h a u := e.ok ok
theorem dk_rd {kvs : List (Key × V)} (ok : HOk P w H h) (e : Rd H a (.dK kvs)) : kvs.length ≤ sizeLine ∧ (a == sysModules) = false ∧ ∃ vs, KV kvs vs ∧ h.DictOf (mixKind P w) a vs :=
  show ObjOk P w H h a (.dK kvs) from rd_of ok e
theorem dk_of {kvs : List (Key × V)} (ok : HOk P w H h) (e : H a = some (.dK kvs)) : kvs.length ≤ sizeLine ∧ (a == sysModules) = false ∧ ∃ vs, KV kvs vs ∧ h.DictOf (mixKind P w) a vs := dk_rd ok (.inl e)
/-- a tracked tuple of ints and texts is a key -/
theorem key_of {ks : List Key} (ok : HOk P w H h) (e : H a = some (.tup (ks.map kV))) : (tupleKind (mixKind P w)).is h ks a := by
  obtain ⟨_, its, r, o, h1, h2, n, h3⟩ := (show ObjOk P w H h a (.tup (ks.map kV)) from ok a _ e)
  exact ⟨o, its.toArray, n, h1, h2, h3, by simpa using items_are r⟩
theorem dt_rd {kvs : List (List Key × V)} (ok : HOk P w H h) (e : Rd H a (.dT kvs)) : kvs.length ≤ sizeLine ∧ (a == sysModules) = false ∧
    ∃ xs, KT H kvs xs ∧ h.DictOfH (tupleKind (mixKind P w)) a xs := by
  obtain ⟨z, y, xs, r, o, es, ep, h1, h2, h3, h4, h5⟩ := (show ObjOk P w H h a (.dT kvs) from rd_of ok e)
  refine ⟨z, y, xs, r, o, es, ep, h1, h2, h3, h4, fun x hx => ?_, h5⟩
  have all : ∀ {l : List (List Key × V)} {m : List (List Key × Addr × Value)}, KT H l m → ∀ x ∈ m, (tupleKind (mixKind P w)).is h x.1 x.2.1 := by
    intro l m q
    induction q with
    | nil => intro x hx; exact nomatch hx
    | @cons p q ps qs hq t ih =>
      intro x hx
      rcases List.mem_cons.mp hx with e | hx
      · subst e
        exact key_of ok (by rw [← hq.1]; exact hq.2.1)
      · exact ih x hx
  exact all r x hx
theorem dt_of {kvs : List (List Key × V)} (ok : HOk P w H h) (e : H a = some (.dT kvs)) : kvs.length ≤ sizeLine ∧ (a == sysModules) = false ∧
    ∃ xs, KT H kvs xs ∧ h.DictOfH (tupleKind (mixKind P w)) a xs := dt_rd ok (.inl e)
end

/-- what the dict at a holds at the key y -/
def DGet (H : Hp) (a : Addr) (y : V) (r : Option V) : Prop :=
  (∃ kvs k, Rd H a (.dK kvs) ∧ y = kV k ∧ r = valV kvs k) ∨ ∃ kvs k b, Rd H a (.dT kvs) ∧ y = .ref b ∧ H b = some (.tup (k.map kV)) ∧ r = valV kvs k
/-- the heap behind a[y] = v -/
def DPut (H : Hp) (a : Addr) (y v : V) (H' : Hp) : Prop :=
  (∃ kvs k, H a = some (.dK kvs) ∧ y = kV k ∧ kvs.length < sizeLine ∧ H' = upd H a (.dK (putK kvs k v))) ∨
  ∃ kvs k b, H a = some (.dT kvs) ∧ y = .ref b ∧ H b = some (.tup (k.map kV)) ∧ kvs.length < sizeLine ∧ H' = upd H a (.dT (putK kvs k v))
theorem DGet.k {H : Hp} {a : Addr} {kvs : List (Key × V)} {k : Key} (e : H a = some (.dK kvs)) : DGet H a (kV k) (valV kvs k) := .inl ⟨kvs, k, .inl e, rfl, rfl⟩
theorem DPut.k {H : Hp} {a : Addr} {kvs : List (Key × V)} {k : Key} {v : V} (e : H a = some (.dK kvs)) (hl : kvs.length < sizeLine) : DPut H a (kV k) v (upd H a (.dK (putK kvs k v))) := .inl ⟨kvs, k, e, rfl, hl, rfl⟩
section
variable {X : Cx} {pins : List (Addr × Obj)} {σ : St} {H : Hp} {s : Shared} {a : Addr} {y v : V} {u r : Value} {o : Option V} {A : Around} {E : Value → Shared → Prop}

theorem Inv.big (I : Inv X pins σ H s) : sysModules < s.heap.objs.size := by
  have h : mainGlobals < s.heap.objs.size := (I.mod.glob.keeps I.bk).lt
  exact Nat.lt_trans (by decide) h

/-- d[y], there -/
theorem d_getItem {Q : Value → Shared → Prop} (hu : A.units + 1 < cLine) (I : Inv X pins σ H s) (g : DGet H a y (some v)) (ry : RelV y u) (h : ∀ w' s', Inv X pins σ H s' → RelV v w' → Q w' s') :
    wpAny (model X.prog X.w) A (getItem (.ref a) u) Q E s := by
  rcases g with ⟨kvs, k, e, ey, l⟩ | ⟨kvs, k, b, e, ey, eb, l⟩
  · subst ey
    obtain ⟨z, hd, vs, rel, dd⟩ := dk_rd I.hok e
    obtain ⟨w', hw, rw'⟩ := RelO.some_of (v := v) (o := valueAt vs k) (by rw [l]; exact rel.val k)
    exact wpAny_getItem_of (kV_is ry) dd.mapOf hw (h w' _ (I.tok _) rw')
  · subst ey
    cases (show u = Value.ref b from ry)
    obtain ⟨z, hd, xs, rel, dd⟩ := dt_rd I.hok e
    obtain ⟨w', hw, rw'⟩ := RelO.some_of (v := v) (o := (atKey xs k).map (·.2)) (by rw [l]; exact rel.val k)
    obtain ⟨p, hp, hp2⟩ := Option.map_eq_some_iff.mp hw
    refine wpAny_getItem_heap (tupleKind_room_in1 hu) (key_of I.hok eb) dd hp ?_
    rw [hp2]
    exact h w' _ (I.tok _) rw'
theorem d_notIn {Q : Value → Shared → Prop} (hu : A.units + 1 < cLine) (I : Inv X pins σ H s) (g : DGet H a y o) (ry : RelV y u) (h : ∀ s', Inv X pins σ H s' → Q (.bool (!o.isSome)) s') :
    wpAny (model X.prog X.w) A (compareOp .NotIn u (.ref a)) Q E s := by
  rcases g with ⟨kvs, k, e, ey, l⟩ | ⟨kvs, k, b, e, ey, eb, l⟩
  · subst ey
    obtain ⟨z, hd, vs, rel, dd⟩ := dk_rd I.hok e
    refine wpAny_notIn_of (kV_is ry) hd dd.mapOf ?_
    rw [← (rel.val k).isSome_eq, ← l]
    exact h _ (I.tok _)
  · subst ey
    cases (show u = Value.ref b from ry)
    obtain ⟨z, hd, xs, rel, dd⟩ := dt_rd I.hok e
    refine wpAny_notIn_heap (tupleKind_room_in1 hu) (key_of I.hok eb) hd dd ?_
    have q := (rel.val k).isSome_eq
    rw [Option.isSome_map] at q
    rw [← q, ← l]
    exact h _ (I.tok _)
/-- a dict's object is replaced -/
theorem d_write {h' : Heap} {t' : Nat} {ob : HO} (I : Inv X pins σ H s) (mu : Mut (H a)) (hs : Heap.SameBut a s.heap h') (he : ∃ q, h'.get? a = some q) (new : ObjOk X.prog X.w (upd H a ob) h' a ob) :
    Inv X pins σ (upd H a ob) { s with heap := h', toks := t' } :=
  I.write (x := a) (e := a) mu (.inl rfl) (fun b q hb z => (hs.2 b hb).trans z) he new
theorem dk_new {P : Program} {w : World} {H' : Hp} {h' : Heap} {kvs : List (Key × V)} {vs : List (Key × Value)} (z : kvs.length ≤ sizeLine) (hd : (a == sysModules) = false) (rel : KV kvs vs) (dd : h'.DictOf (mixKind P w) a vs) :
    ObjOk P w H' h' a (.dK kvs) := ⟨z, hd, vs, rel, dd⟩
/-- d[y] = v -/
theorem d_setItem {H' : Hp} {Q : Unit → Shared → Prop} (hu : A.units + 1 < cLine) (I : Inv X pins σ H s) (g : DPut H a y v H') (ry : RelV y u) (rv : RelV v r) (h : ∀ s', Inv X pins σ H' s' → Q () s') :
    wpAny (model X.prog X.w) A (setItem (.ref a) u r) Q E s := by
  rcases g with ⟨kvs, k, e, ey, l, eH⟩ | ⟨kvs, k, b, e, ey, eb, l, eH⟩
  · subst ey eH
    obtain ⟨z, hd, vs, rel, dd⟩ := dk_of I.hok e
    have hz : vs.length ≤ sizeLine := by rw [← rel.length]; exact z
    have hl : (putK kvs k v).length ≤ sizeLine := by have := length_putK kvs k v; (first | lia | omega)
    refine wpAny_setItem_pairs (hsz := hz) (kV_is ry) dd fun h' dd' hs => h _ ?_
    have he : ∃ q, h'.get? a = some q := let ⟨q, _, _, hq, _⟩ := dd'; ⟨q, hq⟩
    exact d_write I (by rw [e]; exact True.intro) hs he (dk_new hl hd (rel.put k rv) dd')
  · subst ey eH
    cases (show u = Value.ref b from ry)
    obtain ⟨z, hd, xs, rel, dd⟩ := dt_of I.hok e
    have hz : xs.length ≤ sizeLine := by rw [← Paired.length rel]; exact z
    have hl : (putK kvs k v).length ≤ sizeLine := by have := length_putK kvs k v; (first | lia | omega)
    refine wpAny_setItem_heap (hsz := hz) (tupleKind_room_in1 hu) (key_of I.hok eb) dd fun h' dd' hs => h _ ?_
    obtain ⟨q, es, ep, hq, h2, h3, h4, _, h5⟩ := dd'
    refine d_write I (by rw [e]; exact True.intro) hs ⟨q, hq⟩ ⟨hl, hd, _, (rel.put k eb rv).keeps fun c ys ec => ?_, q, es, ep, hq, h2, h3, h4, h5⟩
    rw [upd_ne (ne_of ec e (fun z => nomatch z))]
    exact ec
end

section
variable {X : Cx} {pins : List (Addr × Obj)} {σ : St} {H : Hp} {s : Shared} {a : Addr} {kvs : List (Key × V)} {k : Key} {u : Value} {A : Around} {E : Value → Shared → Prop}
end


/-! ### readings and rules -/
/-- the element of a subscription, not a slice -/
def NoSl (i : Expr) : Prop := ∀ ov iv, subscripted i false ov iv = operate [ov, iv] (getItem ov iv)
theorem subD_of {prog : Program} {w : World} {A : Around} {E : Value → Shared → Prop} {s : Shared} {env : Env} {value slice : Expr} {pos : Pos} {T id : String} {Q : Value → Shared → Prop}
    (hl : typeLookup (.type T) "__getitem__" = pure (some (.builtin id))) (hs : NoSl slice)
    (h : wpAny (model prog w) A (eval value env) (fun o s₁ => wpAny (model prog w) A (eval slice env) (fun i s₂ => s₂.TypeIs o T ∧ wpAny (model prog w) A (getItem o i) Q E s₂) E s₁) E s) :
    wpAny (model prog w) A (eval (.Subscript value slice pos) env) Q E s := by
  refine Subscript_ (wpAny_mono h (fun o s₁ h₁ => wpAny_mono h₁ (fun i s₂ h₂ => ?_) fun _ _ x => x) fun _ _ x => x)
  obtain ⟨hT, h₂⟩ := h₂
  unfold subscriptTail
  refine wpAny_bind ?_
  rw [getitemInPython_of_ne hT.not_modules]
  refine wpAny_bind (wpAny_specialOf hT hl ?_)
  have fin : wpAny (model prog w) A (subscripted slice false o i) (fun r s₃ => wpAny (model prog w) A (letTemporaryGo value o r >>= fun _ => pure r) Q E s₃) E s₂ := by
    rw [hs o i]
    exact wpAny_operating (wpAny_mono h₂ (fun r s₃ h₃ => wpAny_bind (wpAny_letTemporaryGo (wpAny_pure h₃))) fun _ _ x => x)
  first
    | exact wpAny_pure (wpAny_bind fin)
    | exact wpAny_bind (wpAny_pure (wpAny_bind fin))
    | exact wpAny_bind fin

theorem dict_typeIs {X : Cx} {pins : List (Addr × Obj)} {σ : St} {H : Hp} {s : Shared} {a : Addr} {y : V} {o : Option V} (I : Inv X pins σ H s) (g : DGet H a y o) : s.TypeIs (.ref a) "dict" := by
  rcases g with ⟨kvs, k, e, _, _⟩ | ⟨kvs, k, b, e, _, _, _⟩
  · obtain ⟨_, _, vs, _, dd⟩ := dk_rd I.hok e
    exact dd.typeIs
  · obtain ⟨_, _, xs, _, dd⟩ := dt_rd I.hok e
    exact dd.typeIs
/-- d[y] -/
def tDGet (td ty : TE) : TE := fun σ H Q => td σ H fun x H1 => ty σ H1 fun y H2 => ∃ a v, x = .ref a ∧ DGet H2 a y (some v) ∧ Q v H2
def tDNotIn (ty td : TE) : TE := fun σ H Q => ty σ H fun y H1 => td σ H1 fun x H2 => ∃ a o, x = .ref a ∧ DGet H2 a y o ∧ Q (.bl (!o.isSome)) H2
/-- d[y] = v -/
def sDPut (td ty tv : TE) : TS := fun D σ H => tv σ H fun v H1 => td σ H1 fun x H2 => ty σ H2 fun y H3 => ∃ a H4, x = .ref a ∧ DPut H3 a y v H4 ∧ D.nx σ H4
section
variable {X : Cx} {o i e value : Expr} {pos pos' tpos : Pos} {td ty tv : TE}
theorem pe_dget (hu : X.A.units + 1 < cLine) (ho : PE X o td) (hi : PE X i ty) (hs : NoSl i) : PE X (.Subscript o i pos) (tDGet td ty) := by
  intro pins s σ H Q I h
  refine subD_of PySem.F.slot_dict_getitem.lookup hs (thn (ho pins s σ H _ I h) fun u s1 ⟨x, H1, I1, rx, q1⟩ => thn (hi pins s1 σ H1 _ I1 q1) fun iv s2 ⟨y, H2, I2, ry, a, v, ex, g, q2⟩ => ?_)
  subst ex
  obtain rfl : u = Value.ref a := rx
  exact ⟨dict_typeIs I2 g, d_getItem hu I2 g ry fun w' s3 I3 rw' => ⟨v, H2, I3, rw', q2⟩⟩
theorem pc_dnotin (hu : X.A.units + 1 < cLine) (hi : PE X i ty) (ho : PE X o td) : PC X .NotIn i o (tDNotIn ty td) := by
  intro pins s σ H Q I h
  refine thn (hi pins s σ H _ I h) fun iv s1 ⟨y, H1, I1, ry, q1⟩ => thn (ho pins s1 σ H1 _ I1 q1) fun u s2 ⟨x, H2, I2, rx, a, ov, ex, g, q2⟩ => ?_
  subst ex
  obtain rfl : u = Value.ref a := rx
  exact d_notIn hu I2 g ry fun s3 I3 => ⟨.bl (!ov.isSome), H2, I3, rfl, q2⟩
theorem ps_dput (hu : X.A.units + 1 < cLine) (ho : PE X o td) (hi : PE X i ty) (hv : PE X value tv) (hs : swapsWith value (some (.Subscript o i pos')) pos.line X.env = pure false) :
    PS X (.Assign [.Subscript o i pos'] value pos) (sDPut td ty tv) := by
  intro pins s σ H D I h
  refine wpAny_Assign_Subscript (thn (hv pins s σ H _ I h) fun r s1 ⟨v, H1, I1, rv, q1⟩ => thn (ho pins s1 σ H1 _ I1 q1) fun u s2 ⟨x, H2, I2, rx, q2⟩ => thn (hi pins s2 σ H2 _ I2 q2) fun iv s3 ⟨y, H3, I3, ry, a, H4, ex, g, q3⟩ => ?_) hs
  subst ex
  obtain rfl : u = Value.ref a := rx
  exact d_setItem hu I3 g ry rv fun s4 I4 => ⟨σ, H4, I4, q3⟩
end


/-! ### displays -/
theorem dk_empty {P : Program} {w : World} {H : Hp} (h : Heap) (hb : sysModules < h.objs.size) : ObjOk P w H (h.push { cls := .type "dict", data := .dict #[] }) h.objs.size (.dK []) :=
  ⟨Nat.zero_le _, beq_eq_false_iff_ne.mpr (Ne.symm (Nat.ne_of_lt hb)), [], .nil, Heap.DictOf.new h⟩
/-- {}, to be a dict of the kind that is wanted -/
def tDNewK : TE := fun _ H Q => ∀ p, H p = none → Q (.ref p) (upd H p (.dK []))
section
variable {X : Cx} {pos : Pos}
theorem pe_dnewK : PE X (.Dict [] [] pos) tDNewK := fun pins s σ H Q I h =>
  wpAny_Dict_empty ⟨.ref s.heap.objs.size, _, I.laid (a := s.heap.objs.size) (o := .dK []) (t' := s.toks) (fun _ _ q => Heap.get?_push_of_some _ q) (Nat.le_refl _) (dk_empty s.heap I.big), rfl, h _ (I.hok.fresh (Nat.le_refl _))⟩
end

/-- the pairs of a display, from the left -/
def tPairs : List (TE × TE) → St → Hp → (List (V × V) → Hp → Prop) → Prop
  | [], _, H, Q => Q [] H
  | (tk, tv) :: r, σ, H, Q => tk σ H fun x H1 => tv σ H1 fun y H2 => tPairs r σ H2 fun ps H3 => Q ((x, y) :: ps) H3
abbrev VV : List (V × V) → List (Value × Value) → Prop := Paired fun p q => RelV p.1 q.1 ∧ RelV p.2 q.2
def PPs (X : Cx) (pos : Pos) (keys : List (Option Expr)) (values : List Expr) (trs : List (TE × TE)) : Prop :=
  ∀ (pins : List (Addr × Obj)) (s : Shared) (σ : St) (H : Hp) (Q : List (V × V) → Hp → Prop), Inv X pins σ H s → tPairs trs σ H Q →
    wpAny (model X.prog X.w) X.A (evalPairs (pairTrees keys values X.env pos)) (fun vs s' => ∃ ps H', Inv X pins σ H' s' ∧ VV ps vs ∧ Q ps H') X.xe s
theorem pps_nil {X : Cx} {pos : Pos} : PPs X pos [] [] [] := fun pins s σ H Q I h => pairTrees_nil_walk ⟨[], H, I, .nil, h⟩
theorem pps_cons {X : Cx} {pos : Pos} {k v : Expr} {ks : List (Option Expr)} {vs : List Expr} {tk tv : TE} {trs : List (TE × TE)} (hk : PE X k tk) (hv : PE X v tv) (hr : PPs X pos ks vs trs) :
    PPs X pos (some k :: ks) (v :: vs) ((tk, tv) :: trs) := fun pins s σ H Q I h =>
  pairTrees_cons_walk (thn (hk pins s σ H _ I h) fun u s1 ⟨x, H1, I1, rx, q1⟩ => thn (hv pins s1 σ H1 _ I1 q1) fun w2 s2 ⟨y, H2, I2, ry, q2⟩ =>
    thn (hr pins s2 σ H2 _ I2 q2) fun ws s3 ⟨ps, H3, I3, rel, q3⟩ => ⟨(x, y) :: ps, H3, I3, .cons ⟨rx, ry⟩ rel, q3⟩)

def mergeK (kvs more : List (Key × V)) : List (Key × V) := more.foldl (fun acc kv => putK acc kv.1 kv.2) kvs
theorem KV.merge : ∀ {more : List (Key × V)} {rs : List (Key × Value)} {kvs : List (Key × V)} {vs : List (Key × Value)}, KV more rs → KV kvs vs → KV (mergeK kvs more) (merged vs rs) := by
  intro more rs kvs vs r
  unfold KV at r
  induction r generalizing kvs vs with
  | nil => intro q; exact q
  | @cons p q ps qs h t ih =>
    intro r0
    have e : KV (putK kvs p.1 p.2) (stored vs q.1 q.2) := by
      have := r0.put p.1 h.2
      rw [← h.1]; exact this
    exact ih e
theorem length_mergeK : ∀ (more kvs : List (Key × V)), (mergeK kvs more).length ≤ kvs.length + more.length
  | [], kvs => by show kvs.length ≤ kvs.length + 0; (first | lia | omega)
  | p :: r, kvs => by
    have h1 := length_mergeK r (putK kvs p.1 p.2)
    have h2 := length_putK kvs p.1 p.2
    show (mergeK (putK kvs p.1 p.2) r).length ≤ _
    rw [List.length_cons]; (first | lia | omega)
theorem carries_of {P : Program} {w : World} : ∀ {kvs : List (Key × V)} {ws : List (Value × Value)}, VV (kvs.map fun kv => (kV kv.1, kv.2)) ws → ∃ rs, Carries (mixKind P w) ws rs ∧ KV kvs rs
  | [], _, r => by rw [List.map_nil] at r; cases r; exact ⟨[], True.intro, .nil⟩
  | p :: kvs, _, r => by
    rw [List.map_cons] at r
    cases r with
    | @cons a b as bs h t =>
      obtain ⟨rs, c, q⟩ := carries_of (P := P) (w := w) t
      obtain ⟨b1, b2⟩ := b
      exact ⟨(p.1, b2) :: rs, ⟨kV_is h.1, rfl, c⟩, .cons ⟨rfl, h.2⟩ q⟩
/-- {k: v, ..} with keys ints and texts; the new dict stands empty while the pairs are made -/
def tDisp (trs : List (TE × TE)) : TE := fun σ H Q => ∀ p, H p = none → tPairs trs σ (upd H p (.dK [])) fun ps H2 => H2 p = some (.dK []) ∧ ∃ kvs : List (Key × V), ps = kvs.map (fun kv => (kV kv.1, kv.2)) ∧ kvs.length ≤ 15 ∧ Q (.ref p) (upd H2 p (.dK (mergeK [] kvs)))
theorem pe_disp {X : Cx} {pos : Pos} {keys : List (Option Expr)} {values : List Expr} {trs : List (TE × TE)} (h : PPs X pos keys values trs) (hall : keys.all (·.isSome) = true) (hl : keys.length = values.length) (h0 : keys ≠ [])
    (h15 : keys.length ≤ 15) : PE X (.Dict keys values pos) (tDisp trs) := by
  intro pins s σ H Q I q
  have hn := I.hok.fresh (Nat.le_refl s.heap.objs.size)
  have I1 := I.laid (a := s.heap.objs.size) (o := .dK []) (h' := s.heap.push { cls := .type "dict", data := .dict #[] }) (t' := s.toks) (fun _ _ q => Heap.get?_push_of_some _ q) (Nat.le_refl _) (dk_empty s.heap I.big)
  refine wpAny_Dict_walk (knd := mixKind X.prog X.w) hall hl h0 h15 (thn (h pins _ σ _ _ I1 (q _ hn)) fun ws s2 ⟨ps, H2, I2, rel, e, kvs, ep, lk, q2⟩ => ?_)
  subst ep
  obtain ⟨rs, c, rk⟩ := carries_of (P := X.prog) (w := X.w) rel
  obtain ⟨z, hd, vs0, r0, dd⟩ := dk_of I2.hok e
  cases r0
  refine ⟨rs, c, dd, fun h' dd' hs => ⟨.ref s.heap.objs.size, _, ?_, rfl, q2⟩⟩
  have hz : (mergeK [] kvs).length ≤ sizeLine := by
    have h1 := length_mergeK kvs []
    rw [List.length_nil] at h1
    rw [sizeLine_eq]; (first | lia | omega)
  have he : ∃ q, h'.get? s.heap.objs.size = some q := let ⟨q, _, _, hq, _⟩ := dd'; ⟨q, hq⟩
  exact d_write I2 (by rw [e]; exact True.intro) hs he (dk_new hz hd (rk.merge .nil) dd')


/-! ### methods -/
section
variable {X : Cx} {pins : List (Addr × Obj)} {σ : St} {H : Hp} {s : Shared} {a : Addr} {y d : V} {u r : Value} {o : Option V} {A : Around} {E : Value → Shared → Prop}
end

section
variable {X : Cx} {o e f : Expr} {apos cpos : Pos} {td ty tx : TE}
end

/-! ### dict(d): a copy -/
section
variable {X : Cx} {pins : List (Addr × Obj)} {σ : St} {H : Hp} {s : Shared} {a : Addr} {kvs : List (Key × V)} {A : Around} {E : Value → Shared → Prop}
end


section
variable {X : Cx} {pins : List (Addr × Obj)} {σ : St} {H : Hp} {s : Shared} {a : Addr} {y : V} {u : Value} {A : Around} {E : Value → Shared → Prop}
end
end L2
namespace L2
open PySem PySem.Spec PyProof.Rows XL PySem.Calls
open Sem (wp)
section
variable {prog : Program} {w : World} {A : Around} {E : Value → Shared → Prop} {s : Shared}
end
theorem boot_lst : bootBuiltins "list" = some (.type "list") := by decide +kernel
end L2
namespace L2
open PySem PySem.Spec PyProof.Rows XL PySem.Calls PySem.W
theorem ints_of_keys {P : Program} {w : World} : ∀ {ns : List Int} {kvs : List (Key × V)} {vs : List (Key × Value)} {l : List Value}, kvs.map (·.1) = ns.map Sum.inl → KV kvs vs → l.length = vs.length →
    (∀ (i : Nat) v, l[i]? = some v → ∃ k x, vs[i]? = some (k, x) ∧ (mixKind P w).is k v = true) → IntsAre l ns
  | [], [], _, l, _, r, hl, _ => by
    cases r
    have : l = [] := List.length_eq_zero_iff.mp hl
    rw [this]
    exact .nil
  | n :: ns, (k, x) :: kvs, _, l, e, r, hl, h => by
    cases r with
    | @cons p q ps qs h1 t =>
      obtain ⟨k2, x2⟩ := q
      rw [List.map_cons, List.map_cons] at e
      have e1 : k = Sum.inl n := (List.cons.inj e).1
      have e2 := (List.cons.inj e).2
      have hk : k = k2 := h1.1
      cases l with
      | nil => simp at hl
      | cons v l =>
        obtain ⟨k3, x3, e3, is3⟩ := h 0 v rfl
        have e3' : (k2, x2) = (k3, x3) := by simpa using e3
        have : k3 = Sum.inl n := by rw [← (Prod.mk.inj e3').1, ← hk, e1]
        subst this
        obtain ⟨t', rfl⟩ := Value.isInt_shape (k := n) (v := v) is3
        exact .cons n t' (ints_of_keys e2 t (by simpa using hl) fun i u hu => by simpa using h (i + 1) u (by simpa using hu))
  | [], (_ :: _), _, _, e, _, _, _ => by simp at e
  | (_ :: _), [], _, _, e, _, _, _ => by simp at e
/-- sorted of a dict of ints -/
theorem call_sortedD {X : Cx} (hc : X.calm = true) : CallR X (.builtin "sorted") (fun xs H Q => ∃ (a : Addr) (kvs : List (Key × V)) (ns : List Int), xs = [.ref a] ∧ H a = some (.dK kvs) ∧ kvs.map (·.1) = ns.map Sum.inl ∧ ns.length < 64 ∧
    ∀ (d : Addr) (ns' : List Int), H d = none → ns'.Perm ns → ns'.Pairwise (· ≤ ·) → Q (.ref d) (upd H d (.lst (ns'.map V.int)))) := by
  intro pins s σ H xs us Q I r h
  obtain ⟨a, kvs, ns, rfl, ha, hk, h64, q⟩ := h
  obtain ⟨u, rfl, ru⟩ := r.one
  cases ru
  obtain ⟨z, lo, vs, rk, hD⟩ := I.hok a _ ha
  obtain ⟨ep, hat⟩ := hD.dictAt
  have hlen : vs.length = ns.length := by
    have h1 := congrArg List.length hk
    rw [List.length_map, List.length_map] at h1
    have h2 : kvs.length = vs.length := Paired.length rk
    (first | lia | omega)
  refine Calls.call_function_entry kind_sorted plain_sorted entry_sorted (args_sorted1 _) ?_
  unfold Builtin.«sorted»
  refine wpAny_bind (m := checkCount "sorted" 1 1 _) (wpAny_pure ?_)
  refine wpAny_bind (kdu_collect (A := X.A.in1) (kdl_dict (knd := mixKind X.prog X.w) (kvs := vs) (ep := ep) lo) (I.ok.hd hc) hat (by rw [hlen, sizeLine_eq]; (first | lia | omega)) fun h' tk acc hk' hacc => ?_)
  have hl : acc.toList.length = vs.length := by rw [Array.length_toList]; exact hacc.1
  have hI : IntsAre acc.toList ns := ints_of_keys (P := X.prog) (w := X.w) hk rk hl fun i v e => hacc.2 i v (by rw [← Array.getElem?_toList]; exact e)
  refine wpAny_bind (wpAny_newList ?_ (by rw [hl, hlen, sizeLine_eq]; (first | lia | omega)))
  have hoL : (h'.push (seqObj "list" acc.toList.toArray 0)).get? h'.objs.size = some (seqObj "list" acc.toList.toArray 0) := Heap.get?_push_size _ rfl
  refine wpAny_bind (wpAny_holding (wpAny_call_entry slot_list_sort ⟨_, hoL, rfl⟩ entry_list_sort (list_sort_tree hoL hI (by (first | lia | omega)) fun out ns' a1 a2 a3 => ⟨_, rfl, ?_⟩) (args_list_sort _)))
  refine wpAny_pure ⟨_, rfl, ?_⟩
  obtain ⟨e, he⟩ := sortedHeap_at (out := out) hoL
  have old : ∀ b o, h'.get? b = some o → (sortedHeap (h'.push (seqObj "list" acc.toList.toArray 0)) h'.objs.size acc.toList out).get? b = some o := fun b o eb' => by
    have hlt := Heap.lt_size eb'
    rw [sortedHeap_old (Nat.ne_of_lt hlt) (by rw [size_push']; exact Nat.lt_succ_of_lt hlt)]
    exact Heap.get?_push_of_some _ eb'
  have I1 : Inv X pins σ H { s with heap := h', toks := tk } := I.kept hk'
  refine ⟨.ref h'.objs.size, _, I1.laid (t' := tk) old (Nat.le_refl _) (a := h'.objs.size) (o := .lst (ns'.map V.int)) ⟨?_, out.toList, e, of_ints a1, ?_⟩, rfl, q _ ns' I1.fresh a2 a3⟩
  · rw [List.length_map, a2.length_eq, sizeLine_eq]
    (first | lia | omega)
  · rw [he]
end L2
namespace L2
open PySem PySem.Spec PyProof.Rows
/-- numbers below n with p -/
def filtR (n : Nat) (p : Nat → Bool) : List Int := ((List.range n).filter p).map fun k => ((k : Nat) : Int)
theorem filtR_succ (n : Nat) (p : Nat → Bool) : filtR (n + 1) p = filtR n p ++ (if p n = true then [(n : Int)] else []) := by
  unfold filtR
  rw [List.range_succ, List.filter_append, List.map_append]
  by_cases h : p n = true
  · rw [if_pos h, List.filter_cons, if_pos h]
    rfl
  · rw [if_neg h, List.filter_cons, if_neg h]
    rfl
theorem filtR_len (n : Nat) (p : Nat → Bool) : (filtR n p).length ≤ n := by
  unfold filtR
  rw [List.length_map]
  exact Nat.le_trans (List.length_filter_le _ _) (by simp)
theorem filtR_congr {n : Nat} {p p' : Nat → Bool} (h : ∀ k, k < n → p k = p' k) : filtR n p = filtR n p' := by
  unfold filtR
  congr 1
  exact List.filter_congr fun k hk => h k (List.mem_range.mp hk)
/-- for over enumerate of a list that the body leaves as it is -/
theorem for_enum {K : PySem.W.Frag} {a : Addr} {xs : List V} {g : TG} {tb : TS} {D : Ends} {σ : St} {H : Hp} (Pv : Nat → St → Hp → Prop) (h0 : Pv 0 σ H) (hl : ∀ i σ H, i ≤ xs.length → Pv i σ H → SqL K H a xs)
    (hs : ∀ i x σ H t, xs[i]? = some x → Pv i σ H → H t = none → g (.ref t) σ (upd H t (.tup [.int i, x])) fun σ2 H2 => tb { D with nx := Pv (i + 1), ct := Pv (i + 1), bk := D.nx } σ2 H2) (hd : ∀ σ H, Pv xs.length σ H → D.nx σ H) :
    ∃ W : Nat → Nat → St → Hp → Prop, (∃ m, W 0 m σ H) ∧ ∀ i m σ H, W i m σ H →
      ((Ite K a).stop i H ∧ D.nx σ H) ∨ ((Ite K a).go i H ∧ ∃ N : St → Hp → Prop, (∀ σ' H', N σ' H' → ∃ m', m' < m ∧ W (i + 1) m' σ' H') ∧ ∀ x H', (Ite K a).yld i H x H' → g x σ H' fun σ2 H2 => tb { D with nx := N, ct := N, bk := D.nx } σ2 H2) := by
  refine ⟨fun i m σ H => m = xs.length - i ∧ i ≤ xs.length ∧ Pv i σ H, ⟨xs.length, by simp, Nat.zero_le _, h0⟩, ?_⟩
  rintro i m σ H ⟨rfl, hi, p⟩
  have q := hl i σ H hi p
  by_cases hlt : i < xs.length
  · refine .inr ⟨⟨xs, xs[i], q, by simp [hlt]⟩, Pv (i + 1), fun σ' H' p' => ⟨xs.length - (i + 1), by (first | lia | omega), rfl, hlt, p'⟩, fun x H' y => ?_⟩
    obtain ⟨t, rfl, ht, y⟩ := y
    rw [y xs xs[i] q (by simp [hlt])]
    exact hs i xs[i] σ H t (by simp [hlt]) p ht
  · have e : i = xs.length := by (first | lia | omega)
    subst e
    exact .inl ⟨⟨xs, q, Nat.le_refl _⟩, hd σ H p⟩
/-- a statement, by what holds behind it -/
def tMid (t : TS) : TS := fun D σ H => ∃ M : St → Hp → Prop, (∀ σ' H', M σ' H' → D.nx σ' H') ∧ t { D with nx := M } σ H
theorem ps_mid {X : Cx} {st : Stmt} {t : TS} (h : PS X st t) : PS X st (tMid t) := by
  rintro pins s σ H D I ⟨M, k, q⟩
  refine thn (h pins s σ H _ I q) fun f s1 z => ?_
  cases f with
  | next =>
    obtain ⟨σ', H', J, m⟩ := z
    exact ⟨σ', H', J, k σ' H' m⟩
  | brk => exact z
  | cont => exact z
  | ret u => exact z
/-- a comprehension by a word of what is laid -/
theorem comp_gen {J : It} {n : Nat} {H1 : Hp} {D : Addr} {g : TG} {te : TE} {k : Nat} {cs : List Nat} {σ : St} {Q : VK} (Pv : Nat → List V → Hp → Prop) (h0 : Pv 0 [] (upd H1 D (.lst []))) (hP : ∀ i ys H, i < n → Pv i ys H → ys.length < sizeLine)
    (step : ∀ i ys H, i < n → Pv i ys H → J.go i H ∧ ∀ (K1 : VK), (∀ y H4, H4 D = some (.lst ys) → Pv (i + 1) (ys ++ [y]) (upd H4 D (.lst (ys ++ [y]))) → K1 y H4) →
      ∀ x H', J.yld i H x H' → g x (capv k cs σ) H' fun σ2 H2 => σ2.drop k = cs.map (fun i => σ.getD i none) ∧ te σ2 H2 K1)
    (fin : ∀ ys H, Pv n ys H → J.stop n H ∧ Q (.ref D) H) : CompW J k cs σ g tNoIf te Q H1 D := by
  refine ⟨fun i m ys H => m = n - i ∧ i ≤ n ∧ Pv i ys H, ⟨n, by simp, Nat.zero_le _, h0⟩, ?_⟩
  rintro i m ys H ⟨rfl, hi, p⟩
  by_cases hlt : i < n
  · obtain ⟨go, st⟩ := step i ys H hlt p
    refine .inr ⟨go, fun x H' y => st (fun y H4 => H4 D = some (.lst ys) ∧ ys.length < sizeLine ∧ ∃ m', m' < n - i ∧ m' = n - (i + 1) ∧ i + 1 ≤ n ∧ Pv (i + 1) (ys ++ [y]) (upd H4 D (.lst (ys ++ [y])))) (fun y H4 e q => ?_) x H' y⟩
    exact ⟨e, hP i ys H hlt p, n - (i + 1), by (first | lia | omega), rfl, hlt, q⟩
  · have e : i = n := by (first | lia | omega)
    subst e
    exact .inl (fin ys H p)
end L2
namespace L2
open PySem PySem.Spec PyProof.Rows XL PySem.Calls
open Sem (wp)
theorem vals_from : ∀ (l : List Value) (k0 : Nat), (∀ i v, l[i]? = some v → ∃ t, v = Value.int ((k0 + i : Nat) : Int) t) → Vals ((List.range' k0 l.length).map fun k => V.int ((k : Nat) : Int)) l
  | [], k0, _ => .nil
  | v :: l, k0, h => by
    rw [List.length_cons, List.range'_succ, List.map_cons]
    refine .cons ?_ (vals_from l (k0 + 1) fun i v hv => ?_)
    · obtain ⟨t, e⟩ := h 0 v rfl
      exact ⟨t, e⟩
    · obtain ⟨t, e⟩ := h (i + 1) v hv
      exact ⟨t, by rw [e]; congr 2; (first | lia | omega)⟩
/-- list(range(e)) -/
theorem pe_listRange {X : Cx} {e : Expr} {te : TE} {p1 p2 pos1 pos2 : Pos} (hc : X.calm = true) (hg1 : Gl X "list") (hm1 : X.mg "list" = none) (hg2 : Gl X "range") (hm2 : X.mg "range" = none) (he : PE X e te) (hs : starEach [e] X.env = [(false, eval e X.env)] := by rfl)
    (hs2 : starEach [.Call (.Name "range" p2) [e] [] pos2] X.env = [(false, eval (.Call (.Name "range" p2) [e] [] pos2) X.env)] := by rfl) :
    PE X (.Call (.Name "list" p1) [.Call (.Name "range" p2) [e] [] pos2] [] pos1) (fun σ H Q => te σ H fun x H1 => ∃ j : Nat, x = .int (j : Int) ∧ j ≤ 1000 ∧ ∀ d, H1 d = none → Q (.ref d) (upd H1 d (.lst ((List.range j).map fun k => V.int ((k : Nat) : Int))))) := by
  intro pins s σ H Q I h
  refine Call_ (ld_blt I hg1 hm1 boot_lst (PyProof.Rows.callWith_type1 (e := .Call (.Name "range" p2) [e] [] pos2) (rest := []) ?_ hs2 rfl))
  rw [hs2]
  show wpAny _ _ (spliced ((false, eval (.Call (.Name "range" p2) [e] [] pos2) X.env) :: [])) _ _ s
  refine Calls.spliced_cons (Call_ (ld_blt I hg2 hm2 boot_range (PyProof.Rows.callWith_type1 (e := e) (rest := []) ?_ hs rfl)))
  rw [hs]
  show wpAny _ _ (spliced ((false, eval e X.env) :: [])) _ _ s
  refine Calls.spliced_cons (thn (he pins s σ H _ I h) fun u s1 ⟨x, H1, I1, r1, j, ex, hj, q⟩ => ?_)
  subst ex
  obtain ⟨t, rfl⟩ := r1
  refine Calls.spliced_nil (call_range_1 ?_)
  refine Calls.spliced_nil ?_
  have I2 : Inv X pins σ H1 { s1 with heap := s1.heap.push { cls := .type "range", data := .fields #[.int 0 s1.toks, .int (j : Int) t, .int 1 (s1.toks + 1)] }, toks := s1.toks + 1 + 1 } := I1.kept fun b o e => Heap.get?_push_of_some _ e
  refine call_list_range (n := j) (I.ok.hd hc) (IsRange.new ..) (small_one (by (first | lia | omega)) (by (first | lia | omega)) (by (first | lia | omega)) (by (first | lia | omega))) (by rw [rangeSize_one]; split <;> (first | lia | omega)) (by (first | lia | omega)) fun h' tk acc' c' hk hS hacc => ?_
  obtain ⟨hsz, hit⟩ := hacc
  have hv : Vals ((List.range j).map fun k => V.int ((k : Nat) : Int)) acc'.toList := by
    have := vals_from acc'.toList 0 fun i v hv => by
      rw [Array.getElem?_toList] at hv
      obtain ⟨t, e⟩ := hit i v hv
      exact ⟨t, by rw [e]; congr 1; (first | lia | omega)⟩
    rw [Array.length_toList, hsz, ← List.range_eq_range'] at this
    exact this
  refine ⟨.ref _, _, I2.laid (t' := tk) hk (Nat.le_refl _) (show ObjOk X.prog X.w _ h' _ (.lst ((List.range j).map fun k => V.int ((k : Nat) : Int))) from ⟨?_, acc'.toList, c', hv, by rw [Array.toArray_toList]; exact hS⟩), rfl, q _ (I2.hok.fresh (Nat.le_refl _))⟩
  rw [List.length_map, List.length_range, sizeLine_eq]
  (first | lia | omega)
end L2
namespace L2
open PySem PySem.Spec PyProof.Rows XL PySem.Calls
open Sem (wp)
section
variable {X : Cx}
end
end L2
namespace L2
open PySem PySem.Spec PyProof.Rows XL PySem.Calls PySem.W
/-! ### lists of ints, one less than the other -/
/-! ### what a sort asks -/
section
variable {R : Nat → Nat → Bool → Prop} {n : Nat}
end
end L2
namespace L2
open PySem PySem.Spec PyProof.Rows XL PySem.Calls PySem.W
/-! ### readings by name (a term that names the fragment is written anew under each binder: the shorter, the smaller the proof) -/
inductive rcLenI (K : PySem.W.Frag) (xs : List V) (H : Hp) (Q : VK) : Prop
  | mk (p ys : _) : (xs = [.ref p]) → ((SqL K H p ys ∨ SqT K H p ys)) → (Q (.int ys.length) H) → rcLenI K xs H Q
def rcLen (K : PySem.W.Frag) : List V → Hp → VK → Prop := fun xs H Q => rcLenI K xs H Q
inductive rcListI (K : PySem.W.Frag) (xs : List V) (H : Hp) (Q : VK) : Prop
  | mk (p ys : _) : (xs = [.ref p]) → ((SqL K H p ys ∨ SqT K H p ys)) → (∀ l, H l = none → Q (.ref l) (upd H l (.lst ys))) → rcListI K xs H Q
def rcList (K : PySem.W.Frag) : List V → Hp → VK → Prop := fun xs H Q => rcListI K xs H Q
inductive rcAllI (K : PySem.W.Frag) (xs : List V) (H : Hp) (Q : VK) : Prop
  | mk (p : Addr) (bs : List Bool) : (xs = [.ref p]) → (SqL K H p (bs.map V.bl)) → (Q (.bl (bs.all id)) H) → rcAllI K xs H Q
def rcAll (K : PySem.W.Frag) : List V → Hp → VK → Prop := fun xs H Q => rcAllI K xs H Q
inductive rcSetI (K : PySem.W.Frag) (xs : List V) (H : Hp) (Q : VK) : Prop
  | mk (p : Addr) (ns : List Int) : (xs = [.ref p]) → (SqL K H p (ns.map V.int)) → (ns.length + 1 < scanBound) → (∀ d, H d = none → Q (.ref d) (upd H d (.set (fun k => (distinct ns).any (· == k)) (distinct ns).length))) → rcSetI K xs H Q
def rcSet (K : PySem.W.Frag) : List V → Hp → VK → Prop := fun xs H Q => rcSetI K xs H Q
inductive rcSortII (K : PySem.W.Frag) (xs : List V) (H : Hp) (Q : VK) : Prop
  | mk (p : Addr) (ns : List Int) : (xs = [.ref p]) → (SqL K H p (ns.map V.int)) → (ns.length < 64) → (∀ (d : Addr) (ns' : List Int), H d = none → ns'.Perm ns → ns'.Pairwise (· ≤ ·) → Q (.ref d) (upd H d (.lst (ns'.map V.int)))) → rcSortII K xs H Q
def rcSortI (K : PySem.W.Frag) : List V → Hp → VK → Prop := fun xs H Q => rcSortII K xs H Q
section
variable {X : Cx}
theorem c_len : CallR X (.builtin "len") (rcLen X.K) := fun pins s σ H xs us Q I r h => by
  obtain ⟨a0, a1, a2, a3, a4⟩ := h
  exact call_len_seq pins s σ H xs us Q I r ⟨a0, a1, a2, a3, a4⟩
theorem c_list : CallR X (.type "list") (rcList X.K) := fun pins s σ H xs us Q I r h => by
  obtain ⟨a0, a1, a2, a3, a4⟩ := h
  exact call_list_of pins s σ H xs us Q I r ⟨a0, a1, a2, a3, a4⟩
theorem c_all (hc : X.calm = true) : CallR X (.builtin "all") (rcAll X.K) := fun pins s σ H xs us Q I r h => by
  obtain ⟨a0, a1, a2, a3, a4⟩ := h
  exact call_allB hc pins s σ H xs us Q I r ⟨a0, a1, a2, a3, a4⟩
theorem c_set (hc : X.calm = true) : CallR X (.type "set") (rcSet X.K) := fun pins s σ H xs us Q I r h => by
  obtain ⟨a0, a1, a2, a3, a4, a5⟩ := h
  exact call_setI hc pins s σ H xs us Q I r ⟨a0, a1, a2, a3, a4, a5⟩
theorem c_sortI : CallR X (.builtin "sorted") (rcSortI X.K) := fun pins s σ H xs us Q I r h => by
  obtain ⟨a0, a1, a2, a3, a4, a5⟩ := h
  exact call_sortedI pins s σ H xs us Q I r ⟨a0, a1, a2, a3, a4, a5⟩
end
end L2
-- at 6df87be
namespace K06
open PySem L2 XM
/-! the text by places -/
def top (i : Nat) : Stmt := PySem.Challenge.pw_bridgecrews_k06_whole_rings_and_pieces.main.body.getD i (.Pass ⟨0, 0, 0, 0⟩)
abbrev sIsq : Stmt := top 10
abbrev sJoin : Stmt := top 11
abbrev sRises : Stmt := top 12
abbrev sRisesB : Stmt := top 13
abbrev sOnce : Stmt := top 15
abbrev sGroups : Stmt := top 16
abbrev sCheck : Stmt := top 17
abbrev sCheckS : Stmt := top 18
abbrev sCheckSQ : Stmt := top 19
abbrev sCheckQ : Stmt := top 20
abbrev sSteps : Stmt := top 22
abbrev sReach : Stmt := top 23
abbrev sPieces : Stmt := top 24
abbrev sJoins : Stmt := top 25
abbrev sBetween : Stmt := top 27
abbrev sOver : Stmt := top 28
abbrev sRing : Stmt := top 29
abbrev sIsPart : Stmt := top 31
abbrev sPlaces : Stmt := top 32
abbrev sBetw : Stmt := top 33
abbrev sWithin : Stmt := top 34
abbrev sInit : Stmt := inClass (top 36) 0
abbrev sAt : Stmt := top 38
abbrev sTown : Stmt := top 39
abbrev sSome : Stmt := top 40
abbrev sEach : Stmt := top 41
abbrev sCounts : Stmt := top 42
abbrev sWithout : Stmt := top 43
abbrev sLaw : Stmt := top 44
abbrev sWayTo : Stmt := top 26
abbrev sTogether : Stmt := top 14
/-! the data -/
def P2 (H : Hp) (x : V) (p : Int × Int) : Prop := ∃ a, x = .ref a ∧ H a = some (.tup [.int p.1, .int p.2])
abbrev PV (H : Hp) : List V → PP → Prop := All2 (P2 H)
theorem PV.mono {H H' : Hp} {xs : List V} {ps : PP} (s : ∀ b ys, H b = some (.tup ys) → H' b = some (.tup ys)) (h : PV H xs ps) : PV H' xs ps :=
  All2.imp (fun _ _ ⟨a, e, q⟩ => ⟨a, e, s a _ q⟩) h
theorem PV.same {H H' : Hp} {xs : List V} {ps : PP} (s : Same H H') (h : PV H xs ps) : PV H' xs ps := h.mono fun b ys e => s b _ e
/-- a list of ints -/
abbrev LI (H : Hp) (l : Addr) (ns : List Int) : Prop := H l = some (.lst (ns.map V.int))
/-- a list of lists of ints -/
def L1 (H : Hp) (x : V) (ns : List Int) : Prop := ∃ a, x = .ref a ∧ LI H a ns
abbrev LS (H : Hp) : List V → List (List Int) → Prop := All2 (L1 H)
theorem LS.same {H H' : Hp} {xs : List V} {nss : List (List Int)} (s : Same H H') (h : LS H xs nss) : LS H' xs nss := All2.imp (fun _ _ ⟨a, e, q⟩ => ⟨a, e, s a _ q⟩) h

/-! what the walk asks of the text -/
structure Txt (K : PySem.W.Frag) (mg : Str → Option Value) (CE CS CQ CT : Addr) : Prop where
  mgBS : mg "BadSome" = some (.ref CS)
  mgBQ : mg "BadQuarters" = some (.ref CQ)
  mgBP : mg "BadParting" = some (.ref CE)
  mgT : mg "Town" = some (.ref CT)
  errS : Err K CS "ValueError" "ValueError.__new__" "ValueError.__init__" [.type "ValueError", .type "Exception", .type "BaseException", .type "object"]
  errQ : Err K CQ "ValueError" "ValueError.__new__" "ValueError.__init__" [.type "ValueError", .type "Exception", .type "BaseException", .type "object"]
  errP : Err K CE "ValueError" "ValueError.__new__" "ValueError.__init__" [.type "ValueError", .type "Exception", .type "BaseException", .type "object"]
  cl : Cls K CT
  nq : NoAttr K CT "quarters"
  nb : NoAttr K CT "bridges"
  mq : ∃ t, mg "MOST_QUARTERS" = some (.int 24 t)
  mb : ∃ t, mg "MOST_BRIDGES" = some (.int 60 t)
  len : mg "len" = none
  list : mg "list" = none
  range : mg "range" = none
  isi : mg "isinstance" = none
  int : mg "int" = none
  all : mg "all" = none
  zip : mg "zip" = none
  set : mg "set" = none
  sum : mg "sum" = none
  sorted : mg "sorted" = none
  enum : mg "enumerate" = none
  max : mg "max" = none

section
variable {P : Program} {w : World} {K : PySem.W.Frag} {mg : Str → Option Value} {base : Heap} {CE CS CQ CT : Addr}
theorem boot_all : bootBuiltins "all" = some (.builtin "all") := by decide +kernel
theorem boot_sum : bootBuiltins "sum" = some (.builtin "sum") := by decide +kernel
theorem boot_set : bootBuiltins "set" = some (.type "set") := by decide +kernel
theorem boot_sorted : bootBuiltins "sorted" = some (.builtin "sorted") := by decide +kernel
theorem bt_list : bootBuiltins "list" = some (.type "list") := by decide +kernel
theorem take_snoc {α β : Type} {xs : List α} {f : α → β} {i : Nat} {x : α} (h : xs[i]? = some x) : (xs.take (i + 1)).map f = (xs.take i).map f ++ [f x] := by
  rw [List.take_add_one, h, List.map_append]
  rfl
theorem take_snoc' {α : Type} {xs : List α} {i : Nat} {x : α} (h : xs[i]? = some x) : xs.take (i + 1) = xs.take i ++ [x] := by
  rw [List.take_add_one, h]
  rfl

/-! rises -/
def rising (ns : List Int) : Bool := (ns.zip ns.tail).all fun p => decide (p.1 < p.2)
inductive spRisesI  (vs : List V) (H : Hp) (Q : VK) (E : XK) : Prop
  | mk (l : Addr) (ns : List Int) : (vs = [.ref l]) → (LI H l ns) → (ns.length ≤ 1000) → (∀ H', Same H H' → Q (.bl (rising ns)) H') → spRisesI  vs H Q E
def spRises  : Sp := fun vs H Q E => spRisesI  vs H Q E
theorem scRises : FnScope ["numbers"] ["numbers"] (defScope sRises) := ⟨rfl, rfl, rfl, by decide +kernel, rfl, by decide +kernel, by decide +kernel⟩
theorem cut1 (ns : List Int) : cutV (ns.map V.int) (some 1) none = ns.tail.map V.int := by
  unfold cutV
  have e1 : HT.sIx (ns.map V.int).length 0 (some 1) = min 1 ns.length := by
    rw [show (some (1 : Int)) = some ((1 : Nat) : Int) from rfl, HT.sIx_nat, List.length_map]
  rw [e1]
  cases ns with
  | nil => rfl
  | cons n r =>
    have : min 1 (n :: r).length = 1 := by simp
    rw [this]
    simp [HT.sIx]
    rw [← List.length_map (f := V.int), List.take_length]
theorem ok_rises {f : Addr} {fd : FuncData} (T : Txt K mg CE CS CQ CT) (F : Fun K "rises" "rises" sRises f fd) : FnOk P w K mg base CX0 1 f fd ["numbers"] spRises := by
  refine F.ok scRises (fun vs H Q E h => ?_) (fun cdv A outer s H vs Q E hr h => ?_)
  · obtain ⟨l, ns, rfl, _⟩ := h
    rfl
  · obtain ⟨l, ns, rfl, hl, hn, kQ⟩ := h
    have nd2 : (((["one", "other"] : List Str)) ++ []).Nodup := by decide +kernel
    refine ⟨_, pss_one (ps_ret (pe_callB (c_all rfl) (by rfl) T.all boot_all (pa_cons (pe_comp (own := ["one", "other"]) (caps := []) (cs := []) (sc := defScope sRises) ⟨rfl, rfl, by decide +kernel, by decide +kernel, by decide +kernel, by decide +kernel, rfl⟩ rfl
      (pi_zip (by rfl) T.zip (pa_cons (pv 0) (pa_cons (pe_slice sl_list (pv 0) (po_some pe_int) po_none) pa_nil)))
      (fun _ _ _ _ _ => pg_tup (n := 2) rfl (pgs_cons (pg_name (i := 0) nd2 rfl (Or.inl rfl) (.inr rfl)) (pgs_cons (pg_name (i := 1) nd2 rfl (Or.inl rfl) (.inr rfl)) pgs_nil)))
      (fun _ _ _ _ _ => pf_nil) (fun _ _ _ _ _ => pe_cmpR op_lt (pv 0) (pv 1) (nomark _))) pa_nil))), ?_⟩
    try dsimp only [cx_of, cx_nox, cx_comp]
    refine ⟨_, rfl, _, rfl, 1, rfl, l, _, rfl, SqL.of hl, fun l2 hl2 => ?_⟩
    rw [cut1]
    have s1 : Same H (upd H l2 (.lst (ns.tail.map V.int))) := Same.rfl'.new hl2
    refine ⟨l, l2, _, _, rfl, SqL.of (s1 _ _ hl), SqL.of upd_same, fun D hD => comp_ext (n := (ns.zip ns.tail).length) hD (fun i => ((ns.zip ns.tail).take i).map fun p => V.bl (decide (p.1 < p.2))) rfl (fun i hi => ?_) (fun i H2 hi sm hD2 => ?_) (fun H2 sm hD2 => ?_)⟩
    · rw [List.length_map, List.length_take]
      have : i < 1000 := by rw [List.length_zip] at hi; (first | lia | omega)
      exact small1000 (by (first | lia | omega))
    · have q1 : LI H2 l ns := sm _ _ (s1 _ _ hl)
      have q2 : LI H2 l2 ns.tail := sm _ _ upd_same
      have hi1 : i < ns.length := by rw [List.length_zip] at hi; (first | lia | omega)
      have hi2 : i < ns.tail.length := by rw [List.length_zip] at hi; (first | lia | omega)
      have e1 : (ns.map V.int)[i]? = some (.int ns[i]) := by rw [List.getElem?_map, List.getElem?_eq_getElem hi1]; rfl
      have e2 : (ns.tail.map V.int)[i]? = some (.int ns.tail[i]) := by rw [List.getElem?_map, List.getElem?_eq_getElem hi2]; rfl
      refine ⟨⟨_, _, _, _, SqL.of q1, SqL.of q2, e1, e2⟩, fun K1 K2 k1 k2 x H' y => ?_⟩
      obtain ⟨t, rfl, ht, e⟩ := y
      rw [e _ _ _ _ (SqL.of q1) (SqL.of q2) e1 e2]
      refine ⟨t, _, rfl, SqT.of upd_same, rfl, _, _, rfl, _, _, rfl, rfl, rfl, noIf (A := fun _ H3 => tOp _ _ _ _ H3 K1) (B := fun _ H3 => K2 H3) ⟨_, rfl, _, rfl, _, _, rfl, rfl, k1 _ _ (Same.rfl'.new ht) ?_⟩⟩
      rw [take_snoc (x := (ns[i], ns.tail[i])) (by rw [List.getElem?_zip_eq_some]; exact ⟨List.getElem?_eq_getElem hi1, List.getElem?_eq_getElem hi2⟩)]
    · have q1 : LI H2 l ns := sm _ _ (s1 _ _ hl)
      have q2 : LI H2 l2 ns.tail := sm _ _ upd_same
      refine ⟨⟨_, _, SqL.of q1, SqL.of q2, ?_⟩, D, (ns.zip ns.tail).map fun p => decide (p.1 < p.2), rfl, SqL.of ?_, ?_⟩
      · rw [List.length_map, List.length_map, List.length_zip]
        (first | lia | omega)
      · rw [hD2, List.take_length, List.map_map]
        rfl
      · have e : ((ns.zip ns.tail).map fun p => decide (p.1 < p.2)).all id = rising ns := by
          unfold rising
          rw [List.all_map]
          rfl
        rw [e]
        exact kQ H2 (s1.tr sm)
/-! rises_below -/
def inR (c n : Int) : Bool := decide (0 ≤ n) && decide (n < c)
def risesB (ns : List Int) (c : Int) : Bool := rising ns && ns.all (inR c)
inductive spRisesBI  (vs : List V) (H : Hp) (Q : VK) (E : XK) : Prop
  | mk (l : Addr) (ns : List Int) (c : Int) : (vs = [.ref l, .int c]) → (LI H l ns) → (ns.length ≤ 1000) → (∀ H', Same H H' → Q (.bl (risesB ns c)) H') → spRisesBI  vs H Q E
def spRisesB  : Sp := fun vs H Q E => spRisesBI  vs H Q E
theorem scRisesB : FnScope ["numbers", "count"] ["numbers", "count"] (defScope sRisesB) := ⟨rfl, rfl, rfl, by decide +kernel, rfl, by decide +kernel, by decide +kernel⟩
theorem ok_risesB {f f1 : Addr} {fd fd1 : FuncData} (T : Txt K mg CE CS CQ CT) (F : Fun K "rises_below" "rises_below" sRisesB f fd) (G1 : FnOk P w K mg base CX0 1 f1 fd1 ["numbers"] spRises) (b1 : Binds K fd1 ["numbers"] []) (m1 : mg "rises" = some (.ref f1)) (k1 : PySem.W.keepIn K (.ref f1) = true) :
    FnOk P w K mg base CX0 2 f fd ["numbers", "count"] spRisesB := by
  refine F.ok scRisesB (fun vs H Q E h => ?_) (fun cdv A outer s H vs Q E hr h => ?_)
  · obtain ⟨l, ns, c, rfl, _⟩ := h
    rfl
  · obtain ⟨l, ns, c, rfl, hl, hn, kQ⟩ := h
    have nd2 : ((["number"] : List Str) ++ (["count"] : List Str)).Nodup := by decide +kernel
    refine ⟨_, pss_one (ps_ret (pe_and (pe_call G1 hr rfl m1 k1 b1 .nil pass0 (pa_cons (pv 0) pa_nil)) (pe_one (pe_callB (c_all rfl) (by rfl) T.all boot_all (pa_cons
      (pe_comp (own := ["number"]) (caps := ["count"]) (cs := [1]) (sc := defScope sRisesB) ⟨rfl, rfl, by decide +kernel, by decide +kernel, by decide +kernel, by decide +kernel, rfl⟩ rfl
      (pi_list (pv 0)) (fun _ _ _ _ _ => pg_name (i := 0) nd2 rfl (Or.inl rfl) (.inr rfl)) (fun _ _ _ _ _ => pf_nil) (fun _ _ _ _ _ => pe_chain op_le op_lt pe_int (pv 0) (pv 1))) pa_nil))))), ?_⟩
    try dsimp only [cx_of, cx_nox, cx_comp]
    refine ⟨_, rfl, l, ns, rfl, hl, hn, fun H1 s1 => ?_⟩
    refine ⟨_, rfl, ?_⟩
    have e0 : risesB ns c = (rising ns && ns.all (inR c)) := rfl
    cases hr : rising ns with
    | false =>
      refine iteF ?_
      have := kQ H1 s1
      rw [e0, hr] at this
      exact this
    | true =>
      have q1 : LI H1 l ns := s1 _ _ hl
      refine iteT ⟨_, rfl, l, rfl, ⟨_, SqL.of q1⟩, fun D hD => comp_ext0 (n := ns.length) hD (fun i => (ns.take i).map fun n => V.bl (inR c n)) rfl (fun i hi => ?_) (fun i H2 hi sm hD2 => ?_) (fun H2 sm hD2 => ?_)⟩
      · rw [List.length_map, List.length_take]
        exact small1000 (by (first | lia | omega))
      · have q2 : LI H2 l ns := sm _ _ q1
        have e1 : (ns.map V.int)[i]? = some (.int ns[i]) := by rw [List.getElem?_map, List.getElem?_eq_getElem hi]; rfl
        refine ⟨⟨_, _, SqL.of q2, e1⟩, fun K1 k1 x H' y => ?_⟩
        obtain ⟨rfl, e⟩ := y
        have ex := e _ (SqL.of q2)
        rw [e1] at ex
        cases ex
        refine ⟨rfl, ⟨_, rfl, _, _, rfl, rfl, _, rfl, ?_⟩⟩
        have fin : ∀ b, b = inR c ns[i] → K1 (.bl b) H' := fun b eb => k1 _ _ Same.rfl' (by rw [take_snoc (List.getElem?_eq_getElem hi), eb])
        by_cases h0 : 0 ≤ ns[i]
        · rw [decide_eq_true h0]
          refine iteT ⟨_, rfl, _, _, rfl, rfl, fin _ ?_⟩
          unfold inR
          rw [decide_eq_true h0]
          rfl
        · rw [decide_eq_false h0]
          refine iteF (fin _ ?_)
          unfold inR
          rw [decide_eq_false h0]
          rfl
      · have q2 : LI H2 l ns := sm _ _ q1
        refine ⟨⟨_, SqL.of q2, by rw [List.length_map]; exact Nat.le_refl _⟩, D, ns.map (inR c), rfl, SqL.of ?_, ?_⟩
        · rw [hD2, List.take_length, List.map_map]
          rfl
        · have := kQ H2 (s1.tr sm)
          rw [e0, hr, Bool.true_and] at this
          rw [List.all_map]
          exact this

theorem dec_nat {a b : Nat} : decide (V.int (a : Int) = V.int (b : Int)) = decide (a = b) := decide_eq_decide.mpr ⟨fun e => by cases e; (first | lia | omega), fun e => by rw [e]⟩
theorem dec_int {a b : Int} : decide (V.int a = V.int b) = decide (a = b) := decide_eq_decide.mpr ⟨fun e => by cases e; rfl, fun e => by rw [e]⟩

/-! is_quarter -/
inductive spIsqI  (vs : List V) (H : Hp) (Q : VK) (E : XK) : Prop
  | mk (a q : _) : (vs = [.int a, .int q]) → (Q (.bl (decide (0 ≤ a) && decide (a < q))) H) → spIsqI  vs H Q E
def spIsq  : Sp := fun vs H Q E => spIsqI  vs H Q E
theorem scIsq : FnScope ["number", "quarters"] ["number", "quarters"] (defScope sIsq) := ⟨rfl, rfl, rfl, by decide +kernel, rfl, by decide +kernel, by decide +kernel⟩
theorem ok_isq {f : Addr} {fd : FuncData} (F : Fun K "is_quarter" "is_quarter" sIsq f fd) : FnOk P w K mg base CX0 1 f fd ["number", "quarters"] spIsq := by
  refine F.ok scIsq (fun vs H Q E h => ?_) (fun cdv A outer s H vs Q E hr h => ?_)
  · obtain ⟨a, q, rfl, _⟩ := h
    rfl
  · obtain ⟨a, q, rfl, k⟩ := h
    refine ⟨_, pss_one (ps_ret (pe_chain op_le op_lt pe_int (pv 0) (pv 1))), ?_⟩
    try dsimp only [cx_of, cx_nox, cx_comp]
    refine ⟨_, rfl, _, _, rfl, rfl, _, rfl, ?_⟩
    by_cases h : 0 ≤ a
    · rw [decide_eq_true h] at k ⊢
      exact iteT ⟨_, rfl, _, _, rfl, rfl, k⟩
    · rw [decide_eq_false h] at k ⊢
      exact iteF k

/-! joins_two -/
inductive spJoinI  (vs : List V) (H : Hp) (Q : VK) (E : XK) : Prop
  | mk (a b q : _) : (vs = [.int a, .int b, .int q]) → (Q (.bl (okPair q (a, b))) H) → spJoinI  vs H Q E
def spJoin  : Sp := fun vs H Q E => spJoinI  vs H Q E
theorem scJoin : FnScope ["one", "other", "quarters"] ["one", "other", "quarters"] (defScope sJoin) := ⟨rfl, rfl, rfl, by decide +kernel, rfl, by decide +kernel, by decide +kernel⟩
theorem ok_join {f f1 : Addr} {fd fd1 : FuncData} (F : Fun K "joins_two" "joins_two" sJoin f fd) (F1 : Fun K "is_quarter" "is_quarter" sIsq f1 fd1) (b1 : Binds K fd1 ["number", "quarters"] []) (m1 : mg "is_quarter" = some (.ref f1)) :
    FnOk P w K mg base CX0 2 f fd ["one", "other", "quarters"] spJoin := by
  have G1 : FnOk P w K mg base CX0 1 f1 fd1 ["number", "quarters"] spIsq := ok_isq F1
  refine F.ok scJoin (fun vs H Q E h => ?_) (fun cdv A outer s H vs Q E hr h => ?_)
  · obtain ⟨a, b, q, rfl, _⟩ := h
    rfl
  · obtain ⟨a, b, q, rfl, k⟩ := h
    refine ⟨_, pss_one (ps_ret (pe_and (pe_call G1 hr (by rfl) m1 F1.kp b1 .nil pass0 (pa_cons (pv 0) (pa_cons (pv 2) pa_nil)))
      (pe_and (pe_call G1 hr (by rfl) m1 F1.kp b1 .nil pass0 (pa_cons (pv 1) (pa_cons (pv 2) pa_nil))) (pe_one (pe_cmpR op_ne (pv 0) (pv 1) (nomark _)))))), ?_⟩
    try dsimp only [cx_of, cx_nox, cx_comp]
    refine ⟨_, rfl, _, rfl, a, q, rfl, _, rfl, ?_⟩
    unfold okPair at k
    dsimp only at k
    cases h1 : (decide (0 ≤ a) && decide (a < q)) with
    | false =>
      rw [h1] at k
      exact iteF k
    | true =>
      rw [h1] at k
      refine iteT ⟨_, rfl, _, rfl, b, q, rfl, _, rfl, ?_⟩
      cases h2 : (decide (0 ≤ b) && decide (b < q)) with
      | false =>
        rw [h2] at k
        exact iteF k
      | true =>
        rw [h2] at k
        refine iteT ⟨_, rfl, _, rfl, rfl, ?_⟩
        have e : decide (V.int a = V.int b) = decide (a = b) := by simp
        rw [e]
        exact k

/-! check_town: of a town that fits -/
inductive spCheckI  (vs : List V) (H : Hp) (Q : VK) (E : XK) : Prop
  | mk (q : Int) (l : Addr) (xs : List V) (ps : PP) : (vs = [.int q, .ref l]) → (H l = some (.lst xs)) → (PV H xs ps) → (fits q ps = true) → (Q .non H) → spCheckI  vs H Q E
def spCheck  : Sp := fun vs H Q E => spCheckI  vs H Q E
theorem scCheck : FnScope ["quarters", "bridges", "one", "other"] ["quarters", "bridges"] (defScope sCheck) := ⟨rfl, rfl, rfl, by decide +kernel, rfl, by decide +kernel, by decide +kernel⟩
theorem fits_iff {q : Int} {ps : PP} (h : fits q ps = true) : (1 ≤ q ∧ q ≤ 24) ∧ ps.length ≤ 60 ∧ ∀ p ∈ ps, okPair q p = true := by
  unfold fits at h
  simp only [Bool.and_eq_true, decide_eq_true_eq, List.all_eq_true] at h
  exact ⟨h.1, h.2.1, h.2.2⟩
theorem ok_check {f f1 : Addr} {fd fd1 : FuncData} (T : Txt K mg CE CS CQ CT) (F : Fun K "check_town" "check_town" sCheck f fd) (G1 : FnOk P w K mg base CX0 2 f1 fd1 ["one", "other", "quarters"] spJoin) (b1 : Binds K fd1 ["one", "other", "quarters"] []) (m1 : mg "joins_two" = some (.ref f1)) (k1 : PySem.W.keepIn K (.ref f1) = true) :
    FnOk P w K mg base CX0 3 f fd ["quarters", "bridges"] spCheck := by
  obtain ⟨t24, m24⟩ := T.mq
  obtain ⟨t60, m60⟩ := T.mb
  refine F.ok scCheck (fun vs H Q E h => ?_) (fun cdv A outer s H vs Q E hr h => ?_)
  · obtain ⟨q, l, xs, ps, rfl, _⟩ := h
    rfl
  · obtain ⟨q, l, xs, ps, rfl, hl, hp, hf, kQ⟩ := h
    obtain ⟨⟨h1, h2⟩, h3, h4⟩ := fits_iff hf
    refine ⟨_, pss_cons (ps_if (pt_not (pt_chain op_le op_le pe_int (pv 0) (pe_glob (v := .int 24) (by rfl) m24 ⟨_, rfl⟩))) (pss_one ps_never) pss_nil)
      (pss_cons (ps_if (pt_cmpR op_gt (pe_callB c_len (by rfl) T.len PySem.boot_len (pa_cons (pv 1) pa_nil)) (pe_glob (v := .int 60) (by rfl) m60 ⟨_, rfl⟩) (nomark _)) (pss_one ps_never) pss_nil)
      (pss_one (ps_for PassesOwn.never rfl (pi_list (pv 1)) (pg_tup rfl (pgs_cons (pg_name (i := 2) scCheck.nd rfl (Or.inl rfl)) (pgs_cons (pg_name (i := 3) scCheck.nd rfl (Or.inl rfl)) pgs_nil)))
        (pss_one (ps_if (pt_not (pt_val (pe_call G1 hr (by rfl) m1 k1 b1 .nil pass0 (pa_cons (pv 2) (pa_cons (pv 3) (pa_cons (pv 0) pa_nil)))))) (pss_one ps_never) pss_nil))))), ?_⟩
    try dsimp only [cx_of, cx_nox, cx_comp]
    have hlen := hp.length
    refine ⟨_, rfl, _, _, rfl, rfl, _, rfl, ?_⟩
    rw [decide_eq_true h1]
    refine iteT ⟨_, _, rfl, rfl, _, rfl, ?_⟩
    rw [decide_eq_true h2]
    refine iteF ⟨_, rfl, l, xs, rfl, .inl (SqL.of hl), _, _, rfl, rfl, _, rfl, ?_⟩
    rw [decide_eq_false (show ¬ (60 : Int) < (xs.length : Int) by (first | lia | omega))]
    refine iteF ⟨_, rfl, l, rfl, ⟨_, SqL.of hl⟩, for_list (K := K) (a := l) (xs := xs) (fun i σ H2 => H2 = H ∧ ∃ u v, σ = [some (.int q), some (.ref l), u, v])
      ⟨rfl, _, _, rfl⟩ (fun i σ H2 _ ⟨e, _⟩ => by subst e; exact SqL.of hl) ?_ ?_⟩
    · rintro i x σ H2 hi ⟨rfl, u, v, rfl⟩
      obtain ⟨p, hpi, a, rfl, hat⟩ := hp.get hi
      refine ⟨a, _, rfl, SqT.of hat, rfl, _, _, rfl, _, _, rfl, rfl, _, rfl, _, rfl, _, rfl, p.1, p.2, q, rfl, _, rfl, ?_⟩
      rw [h4 p (List.mem_of_getElem? hpi)]
      exact iteF ⟨rfl, _, _, rfl⟩
    · rintro σ H2 ⟨rfl, u, v, rfl⟩
      exact kQ

/-! Town.__init__ -/
theorem qb : ¬ (("quarters" : Str) = "bridges") := by decide +kernel
def flds (q : Int) (l : Addr) : List (Str × V) := putF "bridges" (.ref l) (putF "quarters" (.int q) [])
theorem flds_q (q : Int) (l : Addr) : (flds q l).lookup ("quarters" : Str) = some (.int q) := by
  unfold flds
  rw [lookup_putF, if_neg qb, lookup_putF, if_pos rfl]
theorem flds_b (q : Int) (l : Addr) : (flds q l).lookup ("bridges" : Str) = some (.ref l) := by
  unfold flds
  rw [lookup_putF, if_pos rfl]
/-- a town stands at p, its list at l -/
def TownAt (CT : Addr) (H : Hp) (p l : Addr) (q : Int) (xs : List V) : Prop := (∃ dx, H p = some (.ins CT dx (flds q l))) ∧ H l = some (.lst xs)
theorem TownAt.same {H H' : Hp} {p l : Addr} {q : Int} {xs : List V} (h : TownAt CT H p l q xs) (s : Same H H') : TownAt CT H' p l q xs := ⟨let ⟨dx, e⟩ := h.1; ⟨dx, s _ _ e⟩, s _ _ h.2⟩
inductive spInitI (CT : Addr) (vs : List V) (H : Hp) (Q : VK) (E : XK) : Prop
  | mk (p dx : Addr) (q : Int) (l : Addr) (xs : List V) (ps : PP) : (vs = [.ref p, .int q, .ref l]) → (H p = some (.ins CT dx [])) → (H l = some (.lst xs)) → (PV H xs ps) → (fits q ps = true) → (∀ (l2 : Addr) (H' : Hp), H l2 = none → TownAt CT H' p l2 q xs → (∀ b o, H b = some o → b ≠ p → H' b = some o) → Q .non H') → spInitI CT vs H Q E
def spInit (CT : Addr) : Sp := fun vs H Q E => spInitI CT vs H Q E
theorem scInit : FnScope ["self", "quarters", "bridges"] ["self", "quarters", "bridges"] (defScope sInit) := ⟨rfl, rfl, rfl, by decide +kernel, rfl, by decide +kernel, by decide +kernel⟩
theorem ok_init {f f1 : Addr} {fd fd1 : FuncData} (T : Txt K mg CE CS CQ CT) (F : Fun K "__init__" "Town.__init__" sInit f fd) (G1 : FnOk P w K mg base CX0 3 f1 fd1 ["quarters", "bridges"] spCheck) (b1 : Binds K fd1 ["quarters", "bridges"] []) (m1 : mg "check_town" = some (.ref f1)) (k1 : PySem.W.keepIn K (.ref f1) = true) :
    FnOk P w K mg base CX0 4 f fd ["self", "quarters", "bridges"] (spInit CT) := by
  refine F.ok scInit (fun vs H Q E h => ?_) (fun cdv A outer s H vs Q E hr h => ?_)
  · obtain ⟨p, dx, q, l, xs, ps, rfl, _⟩ := h
    rfl
  · obtain ⟨p, dx, q, l, xs, ps, rfl, hp, hl, hv, hf, kQ⟩ := h
    refine ⟨_, pss_cons (ps_expr (pe_call G1 hr (by rfl) m1 k1 b1 .nil pass0 (pa_cons (pv 1) (pa_cons (pv 2) pa_nil))))
      (pss_cons (ps_fld (pv 0) (pv 1) rfl)
      (pss_one (ps_fld (pv 0) (pe_callTy c_list (by rfl) T.list bt_list (pa_cons (pv 2) pa_nil)) rfl))), ?_⟩
    try dsimp only [cx_of, cx_nox, cx_comp]
    refine ⟨_, rfl, _, rfl, q, l, xs, ps, rfl, hl, hv, hf, ?_⟩
    have npl : p ≠ l := ne_of hp hl (by intro z; cases z)
    refine ⟨_, rfl, _, rfl, p, CT, dx, _, rfl, hp, T.cl, T.nq, (by show 0 < 1000; decide), ?_⟩
    refine ⟨_, rfl, l, xs, rfl, .inl (SqL.of (by rw [upd_ne npl.symm]; exact hl)), fun l2 hn => ?_⟩
    have np2 : p ≠ l2 := ne_of_none upd_same hn
    have hn' : H l2 = none := by rw [upd_ne np2.symm] at hn; exact hn
    refine ⟨_, rfl, p, CT, dx, _, rfl, (by rw [upd_ne np2]; exact upd_same), T.cl, T.nb, (by show 1 < 1000; decide), ?_⟩
    refine kQ l2 _ hn' ⟨⟨dx, upd_same⟩, by rw [upd_ne np2.symm, upd_same]⟩ fun b o e hb => ?_
    rw [upd_ne hb, upd_ne (ne_of_none e hn'), upd_ne hb]
    exact e

end
end K06
namespace K06
open PySem L2 XM
theorem sub_len : ∀ (l r : List Int), l.Nodup → (∀ x ∈ l, x ∈ r) → r.length ≤ l.length → ∀ x ∈ r, x ∈ l
  | [], r, _, _, h => fun x hx => by
    cases r with
    | nil => cases hx
    | cons a b => simp at h
  | a :: l, r, hn, hs, h => fun x hx => by
    obtain ⟨ha, hl⟩ := List.nodup_cons.mp hn
    have har : a ∈ r := hs a List.mem_cons_self
    have hlen : (r.erase a).length = r.length - 1 := List.length_erase_of_mem har
    rw [List.length_cons] at h
    have ih := sub_len l (r.erase a) hl (fun y hy => by
      refine (List.mem_erase_of_ne fun z => ?_).mpr (hs y (List.mem_cons_of_mem _ hy))
      subst z
      exact ha hy) (by (first | lia | omega))
    by_cases e : x = a
    · rw [e]
      exact List.mem_cons_self
    · exact List.mem_cons_of_mem _ (ih x ((List.mem_erase_of_ne e).mpr hx))
def upto (q : Int) : List Int := (List.range q.toNat).map fun k => ((k : Nat) : Int)
theorem mem_upto {q x : Int} : x ∈ upto q ↔ 0 ≤ x ∧ x < q := by
  unfold upto
  rw [List.mem_map]
  constructor
  · rintro ⟨k, hk, rfl⟩
    have := List.mem_range.mp hk
    (first | lia | omega)
  · rintro ⟨h1, h2⟩
    exact ⟨x.toNat, List.mem_range.mpr (by (first | lia | omega)), by (first | lia | omega)⟩
theorem upto_len (q : Int) : (upto q).length = q.toNat := by unfold upto; simp
theorem upto_nodup (q : Int) : (upto q).Nodup := by
  unfold upto List.Nodup
  rw [List.pairwise_map]
  exact List.nodup_range.imp fun h e => h (Int.ofNat.inj e)
theorem fills {l : List Int} {q : Int} (hn : l.Nodup) (hr : ∀ x ∈ l, 0 ≤ x ∧ x < q) (hl : (l.length : Int) = q) : ∀ x, 0 ≤ x → x < q → x ∈ l := fun x h0 h1 =>
  sub_len l (upto q) hn (fun y hy => mem_upto.mpr (hr y hy)) (by rw [upto_len]; (first | lia | omega)) x (mem_upto.mpr ⟨h0, h1⟩)
theorem inR_iff {c n : Int} : inR c n = true ↔ 0 ≤ n ∧ n < c := by
  unfold inR
  rw [Bool.and_eq_true, decide_eq_true_eq, decide_eq_true_eq]
theorem nodup_len : ∀ (l r : List Int), l.Nodup → (∀ x ∈ l, x ∈ r) → l.length ≤ r.length
  | [], r, _, _ => Nat.zero_le _
  | a :: l, r, hn, hs => by
    obtain ⟨ha, hl⟩ := List.nodup_cons.mp hn
    have har : a ∈ r := hs a List.mem_cons_self
    have hlen : (r.erase a).length = r.length - 1 := List.length_erase_of_mem har
    have hpos : 0 < r.length := List.length_pos_of_mem har
    have ih := nodup_len l (r.erase a) hl fun y hy => by
      refine (List.mem_erase_of_ne fun z => ?_).mpr (hs y (List.mem_cons_of_mem _ hy))
      subst z
      exact ha hy
    rw [List.length_cons]
    (first | lia | omega)
theorem getD_at {ps : PP} {i : Nat} {p : Int × Int} (h : ps[i]? = some p) : ps.getD i (0, 0) = p := by rw [List.getD_eq_getElem?_getD, h]; rfl

theorem inV_ints (n : Int) : ∀ ns : List Int, inV (.int n) (ns.map V.int) = ns.contains n
  | [] => rfl
  | m :: r => by
    have := inV_ints n r
    unfold inV at this ⊢
    rw [List.map_cons, List.any_cons, this, List.contains_cons]
    show ((m == n) || _) = ((n == m) || _)
    rw [Bool.beq_comm]
theorem flat_ints : ∀ ns : List Int, (ns.map V.int).all flatV = true
  | [] => rfl
  | m :: r => by
    rw [List.map_cons, List.all_cons, flat_ints r]
    rfl
theorem all_no {α : Type} {l : List α} {p : α → Bool} {i : Nat} {x : α} (h : l[i]? = some x) (hp : p x = false) : l.all p = false := by
  refine Bool.eq_false_iff.mpr fun z => ?_
  rw [List.all_eq_true.mp z x (List.mem_of_getElem? h)] at hp
  cases hp
theorem flat_take {nss : List (List Int)} {i : Nat} {ns : List Int} (h : nss[i]? = some ns) : (nss.take (i + 1)).flatten = (nss.take i).flatten ++ ns := by
  rw [take_snoc' h, List.flatten_append]
  simp
theorem flat_take_le (nss : List (List Int)) (i : Nat) : (nss.take i).flatten.length ≤ nss.flatten.length := by
  have e : nss.flatten = (nss.take i).flatten ++ (nss.drop i).flatten := by rw [← List.flatten_append, List.take_append_drop]
  rw [e, List.length_append]
  (first | lia | omega)
/-! plain mathematics: rising -/
theorem rising_iff : ∀ l : List Int, rising l = true ↔ l.Pairwise (· < ·)
  | [] => by simp [rising]
  | [a] => by simp [rising]
  | a :: b :: r => by
    have ih := rising_iff (b :: r)
    have e : rising (a :: b :: r) = (decide (a < b) && rising (b :: r)) := rfl
    have pc : (a :: b :: r).Pairwise (· < ·) ↔ (∀ x ∈ b :: r, a < x) ∧ (b :: r).Pairwise (· < ·) := List.pairwise_cons
    rw [e, Bool.and_eq_true, decide_eq_true_eq, ih, pc]
    constructor
    · rintro ⟨h1, h2⟩
      refine ⟨fun x hx => ?_, h2⟩
      rcases List.mem_cons.mp hx with rfl | hx
      · exact h1
      · have := (List.pairwise_cons.mp h2).1 x hx
        (first | lia | omega)
    · rintro ⟨h1, h2⟩
      exact ⟨h1 b List.mem_cons_self, h2⟩
theorem risesB_iff {l : List Int} {m : Int} : risesB l m = true ↔ l.Pairwise (· < ·) ∧ ∀ x ∈ l, 0 ≤ x ∧ x < m := by
  unfold risesB
  rw [Bool.and_eq_true, rising_iff, List.all_eq_true]
  exact and_congr_right fun _ => ⟨fun h x hx => inR_iff.mp (h x hx), fun h x hx => inR_iff.mpr (h x hx)⟩
theorem filtR_rises (n : Nat) (p : Nat → Bool) : risesB (filtR n p) (n : Int) = true := by
  refine risesB_iff.mpr ⟨?_, fun x hx => ?_⟩
  · unfold filtR
    rw [List.pairwise_map]
    exact (List.pairwise_lt_range.filter _).imp fun h => by (first | lia | omega)
  · unfold filtR at hx
    obtain ⟨k, hk, rfl⟩ := List.mem_map.mp hx
    have := List.mem_range.mp (List.mem_filter.mp hk).1
    (first | lia | omega)
def partsFrom (a q : Int) : List (List Int) → Bool
  | [] => true
  | g :: r => (risesB g q && (!decide (g = []) && decide (a < g.headD 0))) && partsFrom (g.headD 0) q r
theorem partsFrom_iff {q : Int} : ∀ {nss : List (List Int)} {a : Int}, partsFrom a q nss = true ↔ (∀ g ∈ nss, risesB g q = true ∧ g ≠ []) ∧ (nss.map (·.headD 0)).Pairwise (· < ·) ∧ ∀ g ∈ nss, a < g.headD 0
  | [], a => by simp [partsFrom]
  | g :: r, a => by
    have ih := @partsFrom_iff q r (g.headD 0)
    have e : partsFrom a q (g :: r) = ((risesB g q && (!decide (g = []) && decide (a < g.headD 0))) && partsFrom (g.headD 0) q r) := rfl
    rw [e, Bool.and_eq_true, Bool.and_eq_true, Bool.and_eq_true, decide_eq_true_eq, ih, List.map_cons, List.pairwise_cons]
    have ed : (!decide (g = [])) = true ↔ g ≠ [] := by simp
    rw [ed]
    constructor
    · rintro ⟨⟨h1, h2, h3⟩, h4, h5, h6⟩
      refine ⟨fun x hx => ?_, ⟨fun x hx => ?_, h5⟩, fun x hx => ?_⟩
      · rcases List.mem_cons.mp hx with rfl | hx
        · exact ⟨h1, h2⟩
        · exact h4 x hx
      · obtain ⟨y, hy, rfl⟩ := List.mem_map.mp hx
        exact h6 y hy
      · rcases List.mem_cons.mp hx with rfl | hx
        · exact h3
        · have := h6 x hx
          (first | lia | omega)
    · rintro ⟨h1, ⟨h2, h3⟩, h4⟩
      obtain ⟨a1, a2⟩ := h1 g List.mem_cons_self
      exact ⟨⟨a1, a2, h4 g List.mem_cons_self⟩, fun x hx => h1 x (List.mem_cons_of_mem _ hx), h3, fun x hx => h2 _ (List.mem_map.mpr ⟨x, hx, rfl⟩)⟩
theorem nodup_apart {nss : List (List Int)} (h : nss.flatten.Nodup) {i j : Nat} {g g' : List Int} {x : Int} (hi : nss[i]? = some g) (hj : nss[j]? = some g') (hx : x ∈ g) (hx' : x ∈ g') (hlt : j < i) : False := by
  have e : (nss.take (i + 1)).flatten = (nss.take i).flatten ++ g := flat_take hi
  have sub : ((nss.take (i + 1)).flatten).Nodup := by
    have e2 : nss.flatten = (nss.take (i + 1)).flatten ++ (nss.drop (i + 1)).flatten := by rw [← List.flatten_append, List.take_append_drop]
    rw [e2] at h
    exact (List.nodup_append.mp h).1
  rw [e] at sub
  refine (List.nodup_append.mp sub).2.2 x ?_ x hx rfl
  refine List.mem_flatten.mpr ⟨g', ?_, hx'⟩
  refine List.mem_of_getElem? (i := j) ?_
  rw [List.getElem?_take, if_pos hlt, hj]
theorem nodup_take {g : List Int} (h : g.Nodup) {j : Nat} {x : Int} (hj : g[j]? = some x) : x ∉ g.take j := fun hm => by
  have e : g.take (j + 1) = g.take j ++ [x] := take_snoc' hj
  have e2 : g = g.take (j + 1) ++ g.drop (j + 1) := (List.take_append_drop _ _).symm
  rw [e2, e] at h
  exact (List.nodup_append.mp (List.nodup_append.mp h).1).2.2 x hm x (by simp) rfl
section
variable {P : Program} {w : World} {K : PySem.W.Frag} {mg : Str → Option Value} {base : Heap} {CE CS CQ CT : Addr}
/-! _law_at -/
inductive spAtI (K : PySem.W.Frag) (vs : List V) (H : Hp) (Q : VK) (E : XK) : Prop
  | mk (a : Addr) (ns : List Int) (k : Nat) : (vs = [.ref a, .int k]) → (SqL K H a (ns.map V.int)) → (Q (.int (ns.getD k 0)) H) → spAtI K vs H Q E
def spAt (K : PySem.W.Frag) : Sp := fun vs H Q E => spAtI K vs H Q E
theorem scAt : FnScope ["script", "k"] ["script", "k"] (defScope sAt) := ⟨rfl, rfl, rfl, by decide +kernel, rfl, by decide +kernel, by decide +kernel⟩
theorem ok_at {f : Addr} {fd : FuncData} (T : Txt K mg CE CS CQ CT) (F : Fun K "_law_at" "_law_at" sAt f fd) : FnOk P w K mg base CX0 1 f fd ["script", "k"] (spAt K) := by
  refine F.ok scAt (fun vs H Q E h => ?_) (fun cdv A outer s H vs Q E hr h => ?_)
  · obtain ⟨a, ns, k, rfl, _⟩ := h
    rfl
  · obtain ⟨a, ns, k, rfl, hS, kQ⟩ := h
    refine ⟨_, pss_cons (ps_if (pt_cmpR op_lt (pv 1) (pe_callB c_len (by rfl) T.len PySem.boot_len (pa_cons (pv 0) pa_nil)) (nomark _)) (pss_one (ps_ret (pe_ix ix_list (pv 0) (pv 1) (fun _ _ => rfl)))) pss_nil) (pss_one (ps_ret pe_int)), ?_⟩
    try dsimp only [cx_of, cx_nox, cx_comp]
    refine ⟨_, rfl, _, rfl, a, _, rfl, .inl hS, _, _, rfl, rfl, _, rfl, ?_⟩
    rw [List.length_map]
    by_cases h : k < ns.length
    · rw [decide_eq_true (show (k : Int) < (ns.length : Int) by (first | lia | omega))]
      refine iteT ⟨_, rfl, _, rfl, a, _, _, _, rfl, rfl, hS, atI_nat (v := .int (ns.getD k 0)) ?_, kQ⟩
      rw [List.getElem?_map, List.getD_eq_getElem?_getD, List.getElem?_eq_getElem h]
      rfl
    · rw [decide_eq_false (show ¬ (k : Int) < (ns.length : Int) by (first | lia | omega))]
      refine iteF ?_
      rw [List.getD_eq_getElem?_getD, List.getElem?_eq_none (by (first | lia | omega))] at kQ
      exact kQ

/-! _law_town -/
/-- a pair (quarters, list of pairs) stands at t -/
inductive spTownI (K : PySem.W.Frag) (vs : List V) (H : Hp) (Q : VK) (E : XK) : Prop
  | mk (a : Addr) (ns : List Int) : (vs = [.ref a]) → (SqL K H a (ns.map V.int)) → (∀ (t l : Addr) (q : Int) (xs : List V) (ps : PP) (H' : Hp), H' t = some (.tup [.int q, .ref l]) → H' l = some (.lst xs) → PV H' xs ps → fits q ps = true → ps.length ≤ ns.length - 1 → Same H H' → Q (.ref t) H') → spTownI K vs H Q E
def spTown (K : PySem.W.Frag) : Sp := fun vs H Q E => spTownI K vs H Q E
theorem scTown : FnScope ["script", "head", "quarters", "pairs", "cell", "one"] ["script"] (defScope sTown) := ⟨rfl, rfl, rfl, by decide +kernel, rfl, by decide +kernel, by decide +kernel⟩
theorem cut_ints (ns : List Int) (lo hi : Option Int) : ∃ cs : List Int, cutV (ns.map V.int) lo hi = cs.map V.int ∧ cs.length ≤ HT.sIx ns.length ns.length hi - HT.sIx ns.length 0 lo := by
  unfold cutV
  rw [List.length_map, List.map_drop.symm, List.map_take.symm]
  exact ⟨_, rfl, by rw [List.length_take]; exact Nat.min_le_left _ _⟩
/-- the end of it: if quarters > 1: for ..; return (quarters, pairs) -/
theorem town_tail {a l : Addr} {ns : List Int} {H : Hp} {Q : VK} {hd q : Int} (T : Txt K mg CE CS CQ CT) (hS : SqL K H a (ns.map V.int))
    (kQ : ∀ (t l : Addr) (q : Int) (xs : List V) (ps : PP) (H' : Hp), H' t = some (.tup [.int q, .ref l]) → H' l = some (.lst xs) → PV H' xs ps → fits q ps = true → ps.length ≤ ns.length - 1 → Same H H' → Q (.ref t) H')
    (h1 : 1 ≤ q) (h2 : q ≤ 24) (hl : H l = none) :
    tSeq (tIfS (tTest (tOp (rI0 fun i j => .bl (decide (j < i))) (tVar 2) (tC (.int 1))))
      (tFor (iList K (tSl (rSlL K) (tVar 0) (tPart (tC (.int 1))) (tPart (tC (.int 61))))) (gName 4)
        (tSeq (tAsg (tOp (rI (fun _ j => 0 < j) fun i j => .int (i % j)) (tVar 4) (tVar 2)) (gName 5))
          (tDrop (tBM K "list" rAppend (tVar 3) (tCons (tTup (tCons (tVar 5) (tCons (tOp (rI (fun _ j => 0 < j) fun i j => .int (i % j)) (tOp (rI0 fun i j => .int (i + j)) (tOp (rI0 fun i j => .int (i + j)) (tVar 5) (tC (.int 1)))
            (tOp (rI (fun _ j => 0 < j) fun i j => .int (i % j)) (tOp (rI CDiv fun i j => .int (i / j)) (tVar 4) (tVar 2)) (tOp (rI0 fun i j => .int (i - j)) (tVar 2) (tC (.int 1))))) (tVar 2)) tNil))) tNil))))) tNext)
      (tRet (tTup (tCons (tVar 2) (tCons (tVar 3) tNil)))) { nx := fun _ H' => Q .non H', rt := Q }
      [some (.ref a), some (.int hd), some (.int q), some (.ref l), none, none] (upd H l (.lst [])) := by
  have s0 : Same H (upd H l (.lst [])) := fun b o e => by rw [upd_ne (ne_of_none e hl)]; exact e
  refine ⟨_, rfl, _, _, rfl, rfl, _, rfl, ?_⟩
  refine ite2 (fun hq => ?_) (fun hq => ?_)
  · have hq1 : 1 < q := of_decide_eq_true hq
    refine ⟨_, rfl, _, rfl, _, rfl, a, _, rfl, s0.seq hS, fun ls hls => ?_⟩
    obtain ⟨cs, ecs, lcs⟩ := cut_ints ns (some 1) (some 61)
    rw [ecs]
    have lc : cs.length ≤ 60 := by
      refine Nat.le_trans lcs ?_
      rw [show (some (61 : Int)) = some ((61 : Nat) : Int) from rfl, show (some (1 : Int)) = some ((1 : Nat) : Int) from rfl, HT.sIx_nat, HT.sIx_nat]
      (first | lia | omega)
    have nl : l ≠ ls := ne_of_none upd_same hls
    have nls : H ls = none := s0.free hls
    refine ⟨ls, rfl, ⟨_, SqL.of upd_same⟩, for_list (K := K) (a := ls) (xs := cs.map V.int) (fun i σ H2 => ∃ xs u v, σ = [some (.ref a), some (.int hd), some (.int q), some (.ref l), u, v] ∧ H2 l = some (.lst xs) ∧
      PV H2 xs ((cs.take i).map (mkPair q)) ∧ H2 ls = some (.lst (cs.map V.int)) ∧ Same H H2)
      ⟨[], none, none, rfl, by rw [upd_ne nl]; exact upd_same, .nil, upd_same, fun b o e => by rw [upd_ne (ne_of_none e nls)]; exact s0 b o e⟩ (fun i σ H2 _ ⟨_, _, _, _, _, _, z, _⟩ => SqL.of z) ?_ ?_⟩
    · rintro i x σ H2 hi ⟨xs, u, v, rfl, hxl, hxv, hxs, hsm⟩
      rw [List.getElem?_map] at hi
      obtain ⟨c, hc, rfl⟩ := Option.map_eq_some_iff.mp hi
      have il : i < cs.length := (List.getElem?_eq_some_iff.mp hc).1
      have xl : xs.length = i := by rw [hxv.length, List.length_map, List.length_take]; (first | lia | omega)
      refine ⟨_, rfl, _, rfl, _, _, rfl, rfl, (by show (0 : Int) < q; (first | lia | omega)), ?_⟩
      refine ⟨_, rfl, .inl ⟨rfl, _, SqL.of hxl⟩, _, rfl, _, rfl, _, _, rfl, rfl, _, rfl, _, rfl, _, _, rfl, rfl, ⟨by (first | lia | omega), by (first | lia | omega)⟩, _, rfl, _, _, rfl, rfl, _, _, rfl, rfl, (by show (0 : Int) < q - 1; (first | lia | omega)), _, _, rfl, rfl, _, rfl, _, _, rfl, rfl, (by show (0 : Int) < q; (first | lia | omega)), (by show 2 ≤ sizeLine; decide), fun t ht => ?_⟩
      have ntl : l ≠ t := ne_of_none hxl ht
      have nts : ls ≠ t := ne_of_none hxs ht
      refine ⟨l, xs, _, rfl, rfl, (by rw [upd_ne ntl]; exact hxl), small1000 (by (first | lia | omega)), ?_⟩
      have et : cs.take (i + 1) = cs.take i ++ [c] := by
        rw [List.take_add_one, hc]
        rfl
      have nlls : ls ≠ l := Ne.symm nl
      have up : ∀ b o, H2 b = some o → b ≠ l → (upd (upd H2 t (.tup [.int (c % q), .int ((c % q + 1 + c / q % (q - 1)) % q)])) l (.lst (xs ++ [V.ref t]))) b = some o := fun b o e hb => by
        rw [upd_ne hb, upd_ne (ne_of_none e ht)]
        exact e
      refine ⟨xs ++ [V.ref t], _, _, rfl, upd_same, ?_, up ls _ hxs nlls, fun b o e => up b o (hsm b o e) (ne_of_none e hl)⟩
      rw [et, List.map_append]
      refine All2.append (hxv.mono fun b ys e => up b _ e (ne_of e hxl (by intro z; cases z))) (.cons ⟨t, rfl, ?_⟩ .nil)
      rw [upd_ne (Ne.symm ntl), upd_same]
      rfl
    · rintro σ H2 ⟨xs, u, v, rfl, hxl, hxv, hxs, hsm⟩
      rw [List.length_map, List.take_length] at hxv
      refine ⟨_, rfl, _, rfl, (by show 2 ≤ sizeLine; decide), fun t ht => ?_⟩
      have up : Same H2 (upd H2 t (.tup [.int q, .ref l])) := fun b o e => by rw [upd_ne (ne_of_none e ht)]; exact e
      have hL : (cs.map (mkPair q)).length ≤ ns.length - 1 := by
        rw [List.length_map]
        refine Nat.le_trans lcs ?_
        rw [show (some (61 : Int)) = some ((61 : Nat) : Int) from rfl, show (some (1 : Int)) = some ((1 : Nat) : Int) from rfl, HT.sIx_nat, HT.sIx_nat]
        (first | lia | omega)
      refine kQ t l q xs _ _ upd_same (up _ _ hxl) (hxv.same up) ?_ hL (hsm.trans up)
      have := town_fits q h1 h2 cs lc
      unfold townP at this
      rw [if_pos hq1] at this
      exact this
  · refine ⟨_, rfl, _, rfl, (by show 2 ≤ sizeLine; decide), fun t ht => ?_⟩
    have up : Same (upd H l (.lst [])) (upd (upd H l (.lst [])) t (.tup [.int q, .ref l])) := fun b o e => by rw [upd_ne (ne_of_none e ht)]; exact e
    refine kQ t l q [] [] _ upd_same (up _ _ upd_same) .nil ?_ (Nat.zero_le _) (s0.trans up)
    have := town_fits q h1 h2 [] (by decide)
    unfold townP at this
    simpa using this
theorem ok_town {f f1 : Addr} {fd fd1 : FuncData} (T : Txt K mg CE CS CQ CT) (F : Fun K "_law_town" "_law_town" sTown f fd) (G1 : FnOk P w K mg base CX0 1 f1 fd1 ["script", "k"] (spAt K)) (b1 : Binds K fd1 ["script", "k"] []) (m1 : mg "_law_at" = some (.ref f1)) (k1 : PySem.W.keepIn K (.ref f1) = true) :
    FnOk P w K mg base CX0 2 f fd ["script"] (spTown K) := by
  refine F.ok scTown (fun vs H Q E h => ?_) (fun cdv A outer s H vs Q E hr h => ?_)
  · obtain ⟨a, ns, rfl, _⟩ := h
    rfl
  · obtain ⟨a, ns, rfl, hS, kQ⟩ := h
    refine ⟨_, pss_cons (ps_set (i := 1) scTown.nd rfl (Or.inl rfl) (pe_call G1 hr rfl m1 k1 b1 .nil pass0 (pa_cons (pv 0) (pa_cons pe_int pa_nil))))
      (pss_cons (ps_set (i := 2) scTown.nd rfl (Or.inl rfl) (pe_op op_add pe_int (pe_op op_mod (pv 1) pe_int)))
      (pss_cons (ps_if (pt_cmpR op_eq (pe_op op_mod (pe_op op_fdiv (pv 1) pe_int) pe_int) pe_int (nomark _)) (pss_one (ps_set (i := 2) scTown.nd rfl (Or.inl rfl) (pe_op op_add pe_int (pe_op op_mod (pe_op op_fdiv (pv 1) pe_int) pe_int)))) pss_nil)
      (pss_cons (ps_set (i := 3) scTown.nd rfl (Or.inl rfl) (pe_lst pa_nil))
      (pss_cons (ps_if (pt_cmpR op_gt (pv 2) pe_int (nomark _)) (pss_one (ps_for PassesOwn.never rfl (pi_list (pe_slice sl_list (pv 0) (po_some pe_int) (po_some pe_int))) (pg_name (i := 4) scTown.nd rfl (Or.inl rfl))
        (pss_cons (ps_set (i := 5) scTown.nd rfl (Or.inl rfl) (pe_op op_mod (pv 4) (pv 2)))
        (pss_one (ps_expr (pe_bm PySem.F.plainAttrs_list PySem.F.slot_list_append PySem.F.type_list_append mt_append (pv 3) (pa_cons (pe_tup (pa_cons (pv 5) (pa_cons (pe_op op_mod (pe_op op_add (pe_op op_add (pv 5) pe_int) (pe_op op_mod (pe_op op_fdiv (pv 4) (pv 2)) (pe_op op_sub (pv 2) pe_int))) (pv 2)) pa_nil))) pa_nil))))))) pss_nil)
      (pss_one (ps_ret (pe_tup (pa_cons (pv 2) (pa_cons (pv 3) pa_nil))))))))), ?_⟩
    try dsimp only [cx_of, cx_nox, cx_comp]
    -- head = _law_at(script, 0)
    refine ⟨_, rfl, a, ns, 0, rfl, hS, ?_⟩
    generalize ns.getD 0 0 = hd
    -- quarters = 1 + head % 7
    refine ⟨_, rfl, _, _, rfl, rfl, (by show (0 : Int) < 7; decide), _, _, rfl, rfl, ?_⟩
    -- if head // 7 % 5 == 1
    refine ⟨_, rfl, _, _, rfl, rfl, ⟨by decide, by decide⟩, _, _, rfl, rfl, (by show (0 : Int) < 5; decide), rfl, _, rfl, ?_⟩
    refine ite2 (fun _ => ?_) (fun _ => ?_)
    · refine ⟨_, rfl, _, _, rfl, rfl, ⟨by decide, by decide⟩, _, _, rfl, rfl, (by show (0 : Int) < 24; decide), _, _, rfl, rfl, ?_⟩
      have h1 : 1 ≤ 1 + hd / 35 % 24 := by (first | lia | omega)
      have h2 : 1 + hd / 35 % 24 ≤ 24 := by (first | lia | omega)
      refine ⟨by show 0 ≤ sizeLine; exact Nat.zero_le _, fun l hl => ?_⟩
      exact town_tail T hS kQ h1 h2 hl
    · have h1 : 1 ≤ 1 + hd % 7 := by (first | lia | omega)
      have h2 : 1 + hd % 7 ≤ 24 := by (first | lia | omega)
      refine ⟨by show 0 ≤ sizeLine; exact Nat.zero_le _, fun l hl => ?_⟩
      exact town_tail T hS kQ h1 h2 hl
theorem den_ints {H : Hp} {l : Addr} {ns : List Int} (hl : LI H l ns) : Den K H (.ref l) (.list (ns.map .int)) := by
  refine .lst (SqL.of hl) (by rw [List.length_map, List.length_map]) fun i x d h1 h2 => ?_
  rw [List.getElem?_map] at h1 h2
  cases e : ns[i]? with
  | none => rw [e] at h1; cases h1
  | some n =>
    rw [e] at h1 h2
    cases h1
    cases h2
    exact .int _
theorem lay_ints : ∀ ns : List Int, PyData.canLayAll0 (ns.map .int) = true ∧ PyData.depthAll (ns.map .int) = 0
  | [] => by simp [PyData.canLayAll0, PyData.depthAll]
  | p :: ps => by
    obtain ⟨h1, h2⟩ := lay_ints ps
    rw [List.map_cons]
    simp [PyData.canLayAll0, PyData.depthAll, PyData.canLay0, PyData.depth, h1, h2]
theorem sh_ints (ns : List Int) : SeqAt.shaped (.list (ns.map .int)) = true := by
  have h := lay_ints ns
  unfold SeqAt.shaped
  rw [Bool.and_eq_true]
  refine ⟨by simp [PyData.canLay0, h.1], decide_eq_true ?_⟩
  have := h.2
  simp only [PyData.depth]
  (first | lia | omega)
theorem eqv_ints : ∀ ns ms : List Int, PyData.eqvAll (ns.map .int) (ms.map .int) = decide (ns = ms)
  | [], [] => rfl
  | [], m :: ms => by simp [PyData.eqvAll]
  | n :: ns, [] => by simp [PyData.eqvAll]
  | n :: ns, m :: ms => by
    have ih := eqv_ints ns ms
    rw [List.map_cons, List.map_cons, PyData.eqvAll, ih]
    rw [Bool.eq_iff_iff]
    simp [PyData.eqv]
theorem eqv_lints (ns ms : List Int) : PyData.eqv (.list (ns.map .int)) (.list (ms.map .int)) = decide (ns = ms) := by
  rw [← eqv_ints]
  simp [PyData.eqv]
def ld (g : List Int) : PyData := .list (g.map .int)
theorem den_lists {H : Hp} {l : Addr} {xs : List V} {nss : List (List Int)} (hl : H l = some (.lst xs)) (h : LS H xs nss) : Den K H (.ref l) (.list (nss.map ld)) := by
  refine .lst (SqL.of hl) (by rw [List.length_map]; exact h.length) fun i x d h1 h2 => ?_
  obtain ⟨g, e, a, rfl, q⟩ := h.get h1
  rw [List.getElem?_map, e] at h2
  cases h2
  exact den_ints q
theorem lay_lists : ∀ nss : List (List Int), PyData.canLayAll0 (nss.map ld) = true ∧ PyData.depthAll (nss.map ld) ≤ 1
  | [] => by simp [PyData.canLayAll0, PyData.depthAll]
  | g :: r => by
    obtain ⟨h1, h2⟩ := lay_lists r
    obtain ⟨a1, a2⟩ := lay_ints g
    have d1 : (ld g).depth = 1 := by simp [ld, PyData.depth, a2]
    have c1 : (ld g).canLay0 = true := by simp [ld, PyData.canLay0, a1]
    rw [List.map_cons]
    simp only [PyData.canLayAll0, PyData.depthAll, h1, c1, d1, Bool.and_self, true_and]
    (first | lia | omega)
theorem sh_lists (nss : List (List Int)) : SeqAt.shaped (.list (nss.map ld)) = true := by
  have h := lay_lists nss
  unfold SeqAt.shaped
  rw [Bool.and_eq_true]
  refine ⟨by simp [PyData.canLay0, h.1], decide_eq_true ?_⟩
  have := h.2
  simp only [PyData.depth]
  (first | lia | omega)
theorem eqv_lists : ∀ nss : List (List Int), PyData.eqvAll (nss.map ld) (nss.map ld) = true
  | [] => rfl
  | g :: r => by
    rw [List.map_cons, PyData.eqvAll, eqv_lists r]
    have : PyData.eqv (ld g) (ld g) = true := by
      unfold ld
      rw [eqv_lints]
      simp
    rw [this]
    rfl
theorem eqv_lists' (nss : List (List Int)) : PyData.eqv (.list (nss.map ld)) (.list (nss.map ld)) = true := by
  have := eqv_lists nss
  simpa [PyData.eqv] using this
theorem passE0 {X : Cx} : Passes (CXE X.prog X.w) X E0 := fun _ _ _ _ _ _ _ ⟨_, _, _, _, _, h⟩ => h.elim
end
end K06
namespace K06
open PySem L2 XM
/-! plain mathematics: steps -/
/-- from x on, by the steps L -/
inductive RL (L : Nat → PP) (x : Int) : Int → Prop
  | refl : RL L x x
  | step {y z b : Int} : RL L x y → (b, z) ∈ L y.toNat → RL L x z
def eb (ps : PP) (b : Int) : Int × Int := ps.getD b.toNat (0, 0)
def add1 (L : Nat → PP) (k : Nat) (p : Int × Int) : Nat → PP := fun j => if j = k then L j ++ [p] else L j
/-- the steps of some bridges -/
def stp (ps : PP) : List Int → Nat → PP
  | [] => fun _ => []
  | bs => fun j => bs.flatMap fun b => (if (eb ps b).1 = (j : Int) then [(b, (eb ps b).2)] else []) ++ (if (eb ps b).2 = (j : Int) then [(b, (eb ps b).1)] else [])
theorem stp_eq (ps : PP) (bs : List Int) (j : Nat) : stp ps bs j = bs.flatMap fun b => (if (eb ps b).1 = (j : Int) then [(b, (eb ps b).2)] else []) ++ (if (eb ps b).2 = (j : Int) then [(b, (eb ps b).1)] else []) := by
  cases bs <;> rfl
theorem stp_snoc (ps : PP) (bs : List Int) (b : Int) (u v : Nat) (hu : (eb ps b).1 = (u : Int)) (hv : (eb ps b).2 = (v : Int)) : stp ps (bs ++ [b]) = add1 (add1 (stp ps bs) u (b, (eb ps b).2)) v (b, (eb ps b).1) := by
  funext j
  rw [stp_eq, List.flatMap_append, ← stp_eq]
  unfold add1
  simp only [List.flatMap_cons, List.flatMap_nil, List.append_nil]
  rw [hu, hv]
  by_cases h1 : j = u
  · by_cases h2 : j = v
    · rw [if_pos h2, if_pos h1, if_pos (by (first | lia | omega)), if_pos (by (first | lia | omega)), List.append_assoc]
    · rw [if_neg h2, if_pos h1, if_pos (by (first | lia | omega)), if_neg (by (first | lia | omega)), List.append_nil]
  · by_cases h2 : j = v
    · rw [if_pos h2, if_neg h1, if_neg (by (first | lia | omega)), if_pos (by (first | lia | omega)), List.nil_append]
    · rw [if_neg h2, if_neg h1, if_neg (by (first | lia | omega)), if_neg (by (first | lia | omega))]
      simp
theorem mem_stp {ps : PP} {bs : List Int} {j : Nat} {b z : Int} : (b, z) ∈ stp ps bs j ↔ b ∈ bs ∧ (((eb ps b).1 = (j : Int) ∧ z = (eb ps b).2) ∨ ((eb ps b).2 = (j : Int) ∧ z = (eb ps b).1)) := by
  rw [stp_eq, List.mem_flatMap]
  constructor
  · rintro ⟨c, hc, h⟩
    rcases List.mem_append.mp h with h | h
    · by_cases e : (eb ps c).1 = (j : Int)
      · rw [if_pos e, List.mem_singleton] at h
        cases h
        exact ⟨hc, .inl ⟨e, rfl⟩⟩
      · rw [if_neg e] at h
        cases h
    · by_cases e : (eb ps c).2 = (j : Int)
      · rw [if_pos e, List.mem_singleton] at h
        cases h
        exact ⟨hc, .inr ⟨e, rfl⟩⟩
      · rw [if_neg e] at h
        cases h
  · rintro ⟨hb, ⟨e, rfl⟩ | ⟨e, rfl⟩⟩
    · exact ⟨b, hb, List.mem_append_left _ (by rw [if_pos e]; exact List.mem_singleton.mpr rfl)⟩
    · exact ⟨b, hb, List.mem_append_right _ (by rw [if_pos e]; exact List.mem_singleton.mpr rfl)⟩

/-! steps in the heap -/
structure StepsAt (H : Hp) (sa : Addr) (n : Nat) (L : Nat → PP) : Prop where
  ex : ∃ as : List Addr, H sa = some (.lst (as.map V.ref)) ∧ as.length = n ∧ ∀ (k : Nat) a, as[k]? = some a → ∃ ts, H a = some (.lst ts) ∧ PV H ts (L k)
theorem StepsAt.same {H H' : Hp} {sa : Addr} {n : Nat} {L : Nat → PP} (h : StepsAt H sa n L) (s : Same H H') : StepsAt H' sa n L := by
  obtain ⟨as, h1, h2, h3⟩ := h.ex
  exact ⟨as, s _ _ h1, h2, fun k a e => let ⟨ts, a1, a2⟩ := h3 k a e; ⟨ts, s _ _ a1, a2.same s⟩⟩
/-- while they are made -/
structure SM (H H2 : Hp) (sa : Addr) (as : List Addr) (n : Nat) (L : Nat → PP) : Prop where
  same : Same H H2
  hp : H2 sa = some (.lst (as.map V.ref))
  len : as.length = n
  nd : as.Nodup
  fr : ∀ a ∈ as, H a = none ∧ a ≠ sa
  ls : ∀ (k : Nat) a, as[k]? = some a → ∃ ts, H2 a = some (.lst ts) ∧ PV H2 ts (L k)
theorem SM.out {H H2 : Hp} {sa : Addr} {as : List Addr} {n : Nat} {L : Nat → PP} (m : SM H H2 sa as n L) : StepsAt H2 sa n L := ⟨as, m.hp, m.len, m.ls⟩
theorem SM.push {H H2 : Hp} {sa : Addr} {as : List Addr} {n : Nat} {L : Nat → PP} {k : Nat} {a t : Addr} {ts : List V} {p : Int × Int} (m : SM H H2 sa as n L) (ha : as[k]? = some a) (hts : H2 a = some (.lst ts)) (hpv : PV H2 ts (L k)) (ht : H2 t = none) :
    SM H (upd (upd H2 t (.tup [.int p.1, .int p.2])) a (.lst (ts ++ [V.ref t]))) sa as n (add1 L k p) := by
  obtain ⟨fa, na⟩ := m.fr a (List.mem_of_getElem? ha)
  have nt : t ≠ a := Ne.symm (ne_of_none hts ht)
  have up : ∀ b o, H2 b = some o → b ≠ a → (upd (upd H2 t (.tup [.int p.1, .int p.2])) a (.lst (ts ++ [V.ref t]))) b = some o := fun b o e hb => by
    rw [upd_ne hb, upd_ne (ne_of_none e ht)]
    exact e
  have ups : ∀ b ys, H2 b = some (.tup ys) → (upd (upd H2 t (.tup [.int p.1, .int p.2])) a (.lst (ts ++ [V.ref t]))) b = some (.tup ys) := fun b ys e => up b _ e (ne_of e hts (by intro z; cases z))
  refine ⟨fun b o e => up b o (m.same _ _ e) (ne_of_none e fa), up _ _ m.hp (Ne.symm na), m.len, m.nd, m.fr, fun j b hb => ?_⟩
  unfold add1
  by_cases e : j = k
  · subst e
    rw [ha] at hb
    cases hb
    refine ⟨_, upd_same, ?_⟩
    rw [if_pos rfl]
    refine All2.append (hpv.mono ups) (.cons ⟨t, rfl, ?_⟩ .nil)
    rw [upd_ne nt]
    exact upd_same
  · rw [if_neg e]
    obtain ⟨ts', h1, h2⟩ := m.ls j b hb
    have nb : b ≠ a := fun z => by
      subst z
      obtain ⟨i1, e1⟩ := List.getElem?_eq_some_iff.mp hb
      obtain ⟨i2, e2⟩ := List.getElem?_eq_some_iff.mp ha
      exact e ((List.getElem_inj m.nd).mp (e1.trans e2.symm))
    exact ⟨ts', up _ _ h1 nb, h2.mono ups⟩

section
variable {P : Program} {w : World} {K : PySem.W.Frag} {mg : Str → Option Value} {base : Heap} {CE CS CQ CT : Addr}

/-! check_some -/
inductive spCheckSI (CS : Addr) (vs : List V) (H : Hp) (Q : VK) (E : XK) : Prop
  | mk (l l2 : Addr) (ns : List Int) (ys : List V) : (vs = [.ref l, .ref l2]) → (LI H l ns) → (H l2 = some (.lst ys)) → (ns.length ≤ 1000) → ((risesB ns ys.length = true → ∀ H', Same H H' → Q .non H')) → ((risesB ns ys.length = false → ∀ H', Same H H' → E (.ref CS) none H')) → spCheckSI CS vs H Q E
def spCheckS (CS : Addr) : Sp := fun vs H Q E => spCheckSI CS vs H Q E
theorem scCheckS : FnScope ["some", "bridges"] ["some", "bridges"] (defScope sCheckS) := ⟨rfl, rfl, rfl, by decide +kernel, rfl, by decide +kernel, by decide +kernel⟩
theorem ok_checkS {f f1 : Addr} {fd fd1 : FuncData} (T : Txt K mg CE CS CQ CT) (F : Fun K "check_some" "check_some" sCheckS f fd)
    (G1 : FnOk P w K mg base CX0 2 f1 fd1 ["numbers", "count"] spRisesB) (b1 : Binds K fd1 ["numbers", "count"] []) (m1 : mg "rises_below" = some (.ref f1)) (k1 : PySem.W.keepIn K (.ref f1) = true) :
    FnOk P w K mg base (CXE P w) 3 f fd ["some", "bridges"] (spCheckS CS) := by
  refine F.okE scCheckS (fun vs H Q E h => ?_) (fun cdv A outer s H vs Q E hr h => ?_)
  · obtain ⟨l, l2, ns, ys, rfl, _⟩ := h
    rfl
  · obtain ⟨l, l2, ns, ys, rfl, hl, hl2, hn, kQ, kE⟩ := h
    have lets := lets_cx (P := P) (w := w) (K := K) (mg := mg) (base := base) (N := ["some", "bridges"]) (qual := "check_some") (scope := defScope sCheckS) (f := f) (cd := cdv) (A := A) (outer := outer) (s := s) (H := H) (E := E)
    refine ⟨_, pss_one (ps_if (pt_not (pt_val (pe_call G1 hr (by rfl) m1 k1 b1 .nil pass0 (pa_cons (pv 0) (pa_cons (pe_callB c_len (by rfl) T.len PySem.boot_len (pa_cons (pv 1) pa_nil)) pa_nil)))))
      (pss_one (ps_raise lets T.errS hr.hd (by rfl) T.mgBS (pa_cons pe_str pa_nil))) pss_nil), ?_⟩
    try dsimp only [cx_of, cx_nox, cx_comp]
    refine ⟨_, rfl, _, rfl, l2, ys, rfl, .inl (SqL.of hl2), l, ns, ys.length, rfl, hl, hn, fun H1 s1 => ⟨_, rfl, ?_⟩⟩
    cases hb : risesB ns ys.length with
    | false => exact iteT ⟨by show 1 ≤ sizeLine; decide, kE hb _ s1⟩
    | true => exact iteF (kQ hb _ s1)

/-! steps_over -/
inductive spStepsI (CT : Addr) (vs : List V) (H : Hp) (Q : VK) (E : XK) : Prop
  | mk (p l2 : Addr) (q : Int) (ys : List V) (ps : PP) (l : Addr) (bs : List Int) : (vs = [.ref p, .ref l]) → (TownAt CT H p l2 q ys) → (PV H ys ps) → (fits q ps = true) → (LI H l bs) → (bs.length ≤ 100) → ((∀ b ∈ bs, 0 ≤ b ∧ b < ps.length)) → (∀ (H' : Hp) (sa : Addr), Same H H' → StepsAt H' sa q.toNat (stp ps bs) → Q (.ref sa) H') → spStepsI CT vs H Q E
def spSteps (CT : Addr) : Sp := fun vs H Q E => spStepsI CT vs H Q E
theorem scSteps : FnScope ["town", "some", "steps", "bridge", "ends"] ["town", "some"] (defScope sSteps) := ⟨rfl, rfl, rfl, by decide +kernel, rfl, by decide +kernel, by decide +kernel⟩
theorem ok_steps {f : Addr} {fd : FuncData} (T : Txt K mg CE CS CQ CT) (F : Fun K "steps_over" "steps_over" sSteps f fd) : FnOk P w K mg base CX0 1 f fd ["town", "some"] (spSteps CT) := by
  refine F.ok scSteps (fun vs H Q E h => ?_) (fun cdv A outer s H vs Q E hr h => ?_)
  · obtain ⟨p, l2, q, ys, ps, l, bs, rfl, _⟩ := h
    rfl
  · obtain ⟨p, l2, q, ys, ps, l, bs, rfl, ⟨⟨dx, ht⟩, hl2⟩, hp, hft, hl, hbl, hbs, kQ⟩ := h
    have nd2 : ((["quarter"] : List Str) ++ ([] : List Str)).Nodup := by decide +kernel
    refine ⟨_, pss_cons (ps_comp (i := 2) (own := ["quarter"]) (caps := []) (cs := []) (sc := defScope sSteps) ⟨rfl, rfl, by decide +kernel, by decide +kernel, by decide +kernel, by decide +kernel, rfl⟩ rfl scSteps.nd rfl rfl rfl
        (pi_range1 (by rfl) T.range (pa_cons (pe_fld (pv 0) rfl) pa_nil)) (fun _ _ _ _ _ => pg_name (i := 0) nd2 rfl (Or.inl rfl) (.inr rfl)) (fun _ _ _ _ _ => pf_nil) (fun _ _ _ _ _ => pe_lst pa_nil))
      (pss_cons (ps_for PassesOwn.never rfl (pi_list (pv 1)) (pg_name (i := 3) scSteps.nd rfl (Or.inl rfl))
        (pss_cons (ps_set (i := 4) scSteps.nd rfl (Or.inl rfl) (pe_ix ix_list (pe_fld (pv 0) rfl) (pv 3) (fun _ _ => rfl)))
        (pss_cons (ps_expr (pe_bm PySem.F.plainAttrs_list PySem.F.slot_list_append PySem.F.type_list_append mt_append (pe_ix ix_list (pv 2) (pe_ix ix_tup (pv 4) pe_int (fun _ _ => rfl)) (fun _ _ => rfl)) (pa_cons (pe_tup (pa_cons (pv 3) (pa_cons (pe_ix ix_tup (pv 4) pe_int (fun _ _ => rfl)) pa_nil))) pa_nil)))
        (pss_one (ps_expr (pe_bm PySem.F.plainAttrs_list PySem.F.slot_list_append PySem.F.type_list_append mt_append (pe_ix ix_list (pv 2) (pe_ix ix_tup (pv 4) pe_int (fun _ _ => rfl)) (fun _ _ => rfl)) (pa_cons (pe_tup (pa_cons (pv 3) (pa_cons (pe_ix ix_tup (pv 4) pe_int (fun _ _ => rfl)) pa_nil))) pa_nil)))))))
      (pss_one (ps_ret (pv 2)))), ?_⟩
    try dsimp only [cx_of, cx_nox, cx_comp]
    obtain ⟨⟨hq1, hq2⟩, h60, hok⟩ := fits_iff hft
    have hlen := hp.length
    refine ⟨_, rfl, p, CT, dx, _, _, rfl, ht, T.cl, T.nq, flds_q _ _, q, rfl, by (first | lia | omega), by (first | lia | omega), fun sa hsa => ?_⟩
    refine comp_gen (n := q.toNat) (fun i zs H2 => ∃ as, zs = as.map V.ref ∧ SM H H2 sa as i (fun _ => [])) ⟨[], rfl, Same.rfl'.new hsa, upd_same, rfl, List.nodup_nil, fun a z => by simp at z, fun k a z => by simp at z⟩ (fun i zs H2 hi hv => ?_) (fun i zs H2 hi hv => ?_) (fun zs H2 hv => ?_)
    · obtain ⟨as, rfl, m⟩ := hv
      rw [List.length_map, m.len]
      exact small1000 (by (first | lia | omega))
    · obtain ⟨as, rfl, m⟩ := hv
      refine ⟨hi, fun K1 k1 x H' y => ?_⟩
      obtain ⟨rfl, rfl⟩ := y
      refine ⟨rfl, by show 0 ≤ sizeLine; decide, fun a ha => k1 _ _ ((Same.rfl'.new ha) _ _ m.hp) ⟨as ++ [a], by rw [List.map_append]; rfl, ?_⟩⟩
      have na : a ≠ sa := Ne.symm (ne_of_none m.hp ha)
      refine ⟨(m.same.tr (Same.rfl'.new ha)).new hsa, by rw [upd_same, List.map_append]; rfl, by rw [List.length_append, m.len]; rfl, ?_, fun b hb => ?_, fun k b hb => ?_⟩
      · refine List.nodup_append.mpr ⟨m.nd, by simp, fun x hx y hy z => ?_⟩
        rw [List.mem_singleton] at hy
        subst hy
        subst z
        obtain ⟨k, hk, e2⟩ := List.mem_iff_getElem.mp hx
        obtain ⟨ts, hts, _⟩ := m.ls k x (by rw [List.getElem?_eq_getElem hk, e2])
        rw [ha] at hts
        cases hts
      · rcases List.mem_append.mp hb with hb | hb
        · exact m.fr b hb
        · rw [List.mem_singleton] at hb
          subst hb
          exact ⟨m.same.free ha, na⟩
      · by_cases hk : k < as.length
        · rw [List.getElem?_append_left hk] at hb
          obtain ⟨ts, hts, hpv⟩ := m.ls k b hb
          have nb := (m.fr b (List.mem_of_getElem? hb)).2
          cases hpv
          exact ⟨[], by rw [upd_ne nb, upd_ne (ne_of_none hts ha)]; exact hts, .nil⟩
        · rw [List.getElem?_append_right (by (first | lia | omega))] at hb
          have hk0 : k - as.length = 0 := by
            have := (List.getElem?_eq_some_iff.mp hb).1
            simp at this
            exact this
          rw [hk0] at hb
          cases hb
          exact ⟨[], by rw [upd_ne na, upd_same], .nil⟩
    obtain ⟨as, rfl, m⟩ := hv
    refine ⟨Nat.le_refl _, ?_⟩
    refine ⟨_, rfl, l, rfl, ⟨_, SqL.of (m.same _ _ hl)⟩, for_list (K := K) (a := l) (xs := bs.map V.int) (fun i σ H3 => SM H H3 sa as q.toNat (stp ps (bs.take i)) ∧ ∃ u v, σ = [some (.ref p), some (.ref l), some (.ref sa), u, v])
      ⟨m, _, _, rfl⟩ (fun i σ H3 _ ⟨m3, _⟩ => SqL.of (m3.same _ _ hl)) ?_ ?_⟩
    · rintro i x σ H3 hi ⟨m3, u, v, rfl⟩
      rw [List.getElem?_map] at hi
      obtain ⟨b, hb, rfl⟩ := Option.map_eq_some_iff.mp hi
      obtain ⟨hb0, hb1⟩ := hbs b (List.mem_of_getElem? hb)
      have ebn : ((b.toNat : Nat) : Int) = b := by (first | lia | omega)
      have hbn : b.toNat < ys.length := by (first | lia | omega)
      obtain ⟨y, hy⟩ : ∃ y, ys[b.toNat]? = some y := ⟨_, List.getElem?_eq_getElem hbn⟩
      obtain ⟨pr, hpr, a, rfl, hat⟩ := hp.get hy
      have eeb : eb ps b = pr := getD_at hpr
      have okp := hok pr (List.mem_of_getElem? hpr)
      unfold okPair at okp
      simp only [Bool.and_eq_true, decide_eq_true_eq] at okp
      obtain ⟨⟨p1, p2⟩, ⟨p3, p4⟩, _⟩ := okp
      have e1 : ((pr.1.toNat : Nat) : Int) = pr.1 := by (first | lia | omega)
      have e2 : ((pr.2.toNat : Nat) : Int) = pr.2 := by (first | lia | omega)
      obtain ⟨a1, ha1⟩ : ∃ a1, as[pr.1.toNat]? = some a1 := ⟨_, List.getElem?_eq_getElem (by rw [m3.len]; (first | lia | omega))⟩
      obtain ⟨ts1, ht1, hv1⟩ := m3.ls _ a1 ha1
      have hm1 : (as.map V.ref)[pr.1.toNat]? = some (.ref a1) := by rw [List.getElem?_map, ha1]; rfl
      have sl : ∀ k, (stp ps (bs.take i) k).length ≤ 2 * i := fun k => by
        rw [stp_eq]
        have hle : ∀ cs : List Int, (cs.flatMap fun b => (if (eb ps b).1 = (k : Int) then [(b, (eb ps b).2)] else []) ++ (if (eb ps b).2 = (k : Int) then [(b, (eb ps b).1)] else [])).length ≤ 2 * cs.length := fun cs => by
          induction cs with
          | nil => simp
          | cons c r ih =>
            rw [List.flatMap_cons, List.length_append, List.length_append, List.length_cons]
            have h1 : (if (eb ps c).1 = (k : Int) then [(c, (eb ps c).2)] else []).length ≤ 1 := by split <;> simp
            have h2 : (if (eb ps c).2 = (k : Int) then [(c, (eb ps c).1)] else []).length ≤ 1 := by split <;> simp
            (first | lia | omega)
        refine Nat.le_trans (hle _) ?_
        rw [List.length_take]
        (first | lia | omega)
      have hil : i < bs.length := (List.getElem?_eq_some_iff.mp hb).1
      refine ⟨_, rfl, p, CT, dx, _, _, rfl, m3.same _ _ ht, T.cl, T.nb, flds_b _ _, _, rfl, l2, ys, _, V.ref a, rfl, rfl, SqL.of (m3.same _ _ hl2), by rw [← ebn]; exact atI_nat hy, ?_⟩
      have at3 := m3.same _ _ hat
      refine ⟨_, rfl, _, rfl, a, _, _, _, rfl, rfl, SqT.of at3, atI_nat (j := 0) rfl, sa, _, _, V.ref a1, rfl, rfl, SqL.of m3.hp, by rw [← e1]; exact atI_nat hm1, .inl ⟨rfl, _, SqL.of ht1⟩, _, rfl, _, rfl, a, _, _, _, rfl, rfl, SqT.of at3, atI_nat (j := 1) rfl, by show 2 ≤ sizeLine; decide, fun t ht' => ?_⟩
      have n1 : t ≠ a1 := Ne.symm (ne_of_none ht1 ht')
      refine ⟨a1, ts1, _, rfl, rfl, by rw [upd_ne (Ne.symm n1)]; exact ht1, ?_, ?_⟩
      · rw [hv1.length]
        have := sl pr.1.toNat
        exact small1000 (by (first | lia | omega))
      have m4 := m3.push (p := (b, pr.2)) ha1 ht1 hv1 ht'
      obtain ⟨a2, ha2⟩ : ∃ a2, as[pr.2.toNat]? = some a2 := ⟨_, List.getElem?_eq_getElem (by rw [m3.len]; (first | lia | omega))⟩
      obtain ⟨ts2, ht2, hv2⟩ := m4.ls _ a2 ha2
      have hm2 : (as.map V.ref)[pr.2.toNat]? = some (.ref a2) := by rw [List.getElem?_map, ha2]; rfl
      have at4 := m4.same _ _ hat
      refine ⟨_, rfl, _, rfl, a, _, _, _, rfl, rfl, SqT.of at4, atI_nat (j := 1) rfl, sa, _, _, V.ref a2, rfl, rfl, SqL.of m4.hp, by rw [← e2]; exact atI_nat hm2, .inl ⟨rfl, _, SqL.of ht2⟩, _, rfl, _, rfl, a, _, _, _, rfl, rfl, SqT.of at4, atI_nat (j := 0) rfl, by show 2 ≤ sizeLine; decide, fun t2 ht2' => ?_⟩
      have n2 : t2 ≠ a2 := Ne.symm (ne_of_none ht2 ht2')
      refine ⟨a2, ts2, _, rfl, rfl, by rw [upd_ne (Ne.symm n2)]; exact ht2, ?_, ?_⟩
      · rw [hv2.length]
        have h1 := sl pr.2.toNat
        unfold add1
        split
        · rw [List.length_append, List.length_singleton]
          exact small1000 (by (first | lia | omega))
        · exact small1000 (by (first | lia | omega))
      have m5 := m4.push (p := (b, pr.1)) ha2 ht2 hv2 ht2'
      refine ⟨?_, _, _, rfl⟩
      rw [take_snoc' hb, stp_snoc ps (bs.take i) b pr.1.toNat pr.2.toNat (by rw [eeb]; exact e1.symm) (by rw [eeb]; exact e2.symm), eeb]
      exact m5
    · rintro σ H3 ⟨m3, u, v, rfl⟩
      rw [List.length_map, List.take_length] at m3
      exact ⟨_, rfl, kQ H3 sa m3.same m3.out⟩
end
end K06
namespace L2
open PySem
section
variable {κ : Type} [DecidableEq κ]
theorem valV_no {kvs : List (κ × V)} {k : κ} (h : valV kvs k = none) : ¬ k ∈ kvs.map (·.1) := by
  intro m
  obtain ⟨p, hp, e⟩ := List.mem_map.mp m
  have q : (kvs.any fun kv => decide (kv.1 = k)) = true := List.any_eq_true.mpr ⟨p, hp, decide_eq_true e⟩
  rw [valV_any, h] at q
  exact absurd q (by simp)
theorem valV_some {kvs : List (κ × V)} {k : κ} {v : V} (h : valV kvs k = some v) : k ∈ kvs.map (·.1) := by
  have q : (kvs.any fun kv => decide (kv.1 = k)) = true := by
    rw [valV_any, h]
    all_goals rfl
  obtain ⟨p, hp, e⟩ := List.any_eq_true.mp q
  exact List.mem_map.mpr ⟨p, hp, of_decide_eq_true e⟩
end
end L2
namespace K06
open PySem L2 XM
/-- so many steps lead there -/
inductive RLn (L : Nat → PP) (x : Int) : Nat → Int → Prop
  | refl : RLn L x 0 x
  | step {m : Nat} {y z b : Int} : RLn L x m y → (b, z) ∈ L y.toNat → RLn L x (m + 1) z
/-- a spreading under way -/
structure BF (H H2 : Hp) (d qa : Addr) (L : Nat → PP) (n : Nat) (x : Int) (kvs : List (Key × V)) (qs : List Int) (ds : List Nat) : Prop where
  same : Same H H2
  hd : H2 d = some (.dK kvs)
  hq : LI H2 qa qs
  keys : kvs.map (·.1) = qs.map Sum.inl
  nd : qs.Nodup
  first : qs[0]? = some x
  rng : ∀ y ∈ qs, 0 ≤ y ∧ y < n
  rl : ∀ (j : Nat) y m, qs[j]? = some y → ds[j]? = some m → RLn L x m y
  v0 : valV kvs (Sum.inl x) = some .non
  ch : ∀ (j : Nat) y, 0 < j → qs[j]? = some y → ∃ (i : Nat) (z : Int) (t : Addr) (b : Int) (m : Nat), i < j ∧ qs[i]? = some z ∧ valV kvs (Sum.inl y) = some (.ref t) ∧ H2 t = some (.tup [.int b, .int z]) ∧ (b, y) ∈ L z.toNat ∧ ds[i]? = some m ∧ ds[j]? = some (m + 1)
  dl : ds.length = qs.length
  d0 : ds[0]? = some 0
  mono : ds.Pairwise (· ≤ ·)
  dj : ∀ (j : Nat) m, ds[j]? = some m → m ≤ j
theorem BF.mem {H H2 : Hp} {d qa : Addr} {L : Nat → PP} {n : Nat} {x : Int} {kvs : List (Key × V)} {qs : List Int} {ds : List Nat} (B : BF H H2 d qa L n x kvs qs ds) (z : Int) : (valV kvs (Sum.inl z)).isSome = true ↔ z ∈ qs := by
  cases e : valV kvs (Sum.inl z) with
  | none =>
    have := valV_no e
    rw [B.keys] at this
    refine ⟨fun h => (by cases h), fun h => absurd (List.mem_map.mpr ⟨z, h, rfl⟩) this⟩
  | some v =>
    have := valV_some e
    rw [B.keys] at this
    obtain ⟨y, hy, ey⟩ := List.mem_map.mp this
    cases ey
    exact ⟨fun _ => hy, fun _ => rfl⟩
theorem BF.len {H H2 : Hp} {d qa : Addr} {L : Nat → PP} {n : Nat} {x : Int} {kvs : List (Key × V)} {qs : List Int} {ds : List Nat} (B : BF H H2 d qa L n x kvs qs ds) : qs.length ≤ n := by
  have := nodup_len qs (upto (n : Int)) B.nd fun y hy => mem_upto.mpr (B.rng y hy)
  rw [upto_len] at this
  (first | lia | omega)
theorem BF.push {H H2 : Hp} {d qa t : Addr} {L : Nat → PP} {n i m : Nat} {x y z b : Int} {kvs : List (Key × V)} {qs : List Int} {ds : List Nat} (B : BF H H2 d qa L n x kvs qs ds) (fd : H d = none) (fq : H qa = none) (hi : qs[i]? = some y) (hm : ds[i]? = some m) (ub : ∀ k ∈ ds, k ≤ m + 1) (hz : z ∉ qs) (hb : (b, z) ∈ L y.toNat) (hr : 0 ≤ z ∧ z < n) (ht : H2 t = none) :
    BF H (upd (upd (upd H2 t (.tup [.int b, .int y])) d (.dK (putK kvs (Sum.inl z) (.ref t)))) qa (.lst (qs.map V.int ++ [V.int z]))) d qa L n x (putK kvs (Sum.inl z) (.ref t)) (qs ++ [z]) (ds ++ [m + 1]) := by
  have hv : valV kvs (Sum.inl z) = none := by
    cases e : valV kvs (Sum.inl z) with
    | none => rfl
    | some v => exact absurd ((B.mem z).mp (by rw [e]; rfl)) hz
  have ep := putK_new (.ref t) hv
  have ndq : d ≠ qa := ne_of B.hd B.hq (by intro q; cases q)
  have ntd : t ≠ d := Ne.symm (ne_of_none B.hd ht)
  have ntq : t ≠ qa := Ne.symm (ne_of_none B.hq ht)
  have hil : i < qs.length := (List.getElem?_eq_some_iff.mp hi).1
  have hx : x ∈ qs := List.mem_of_getElem? B.first
  have dl := B.dl
  have lastq : ∀ (j : Nat) u, (qs ++ [z])[j]? = some u → j < qs.length ∨ (j = qs.length ∧ u = z) := fun j u hu => by
    by_cases hjl : j < qs.length
    · exact .inl hjl
    · have hj2 : j = qs.length := by
        have := (List.getElem?_eq_some_iff.mp hu).1
        rw [List.length_append, List.length_singleton] at this
        (first | lia | omega)
      subst hj2
      rw [List.getElem?_append_right (Nat.le_refl _), Nat.sub_self] at hu
      cases hu
      exact .inr ⟨rfl, rfl⟩
  have lastd : (ds ++ [m + 1])[qs.length]? = some (m + 1) := by rw [← dl, List.getElem?_append_right (Nat.le_refl _), Nat.sub_self]; rfl
  refine ⟨fun c o e => ?_, by rw [upd_ne ndq]; exact upd_same, by rw [LI, upd_same, List.map_append]; rfl, ?_, ?_, ?_, fun u hu => ?_, fun j u k hu hk => ?_, ?_, fun j u hj hu => ?_, by rw [List.length_append, List.length_append, dl]; rfl, ?_, ?_, fun j k hk => ?_⟩
  · have e2 := B.same _ _ e
    rw [upd_ne (ne_of_none e fq), upd_ne (ne_of_none e fd), upd_ne (ne_of_none e2 ht)]
    exact e2
  · rw [ep, List.map_append, List.map_append, B.keys]
    rfl
  · refine List.nodup_append.mpr ⟨B.nd, by simp, fun a ha c hc q => ?_⟩
    rw [List.mem_singleton] at hc
    subst hc
    subst q
    exact hz ha
  · rw [List.getElem?_append_left (by (first | lia | omega))]
    exact B.first
  · rcases List.mem_append.mp hu with hu | hu
    · exact B.rng u hu
    · rw [List.mem_singleton] at hu
      rw [hu]
      exact hr
  · rcases lastq j u hu with hj | ⟨rfl, rfl⟩
    · rw [List.getElem?_append_left hj] at hu
      rw [List.getElem?_append_left (by (first | lia | omega))] at hk
      exact B.rl j u k hu hk
    · rw [lastd] at hk
      cases hk
      exact .step (B.rl i y m hi hm) hb
  · rw [valV_put, if_neg fun q => ?_]
    · exact B.v0
    · have q : x = z := Sum.inl.inj q
      exact hz (q ▸ hx)
  · rcases lastq j u hu with hjl | ⟨rfl, rfl⟩
    · rw [List.getElem?_append_left hjl] at hu
      obtain ⟨i', z', t', b', m', a1, a2, a3, a4, a5, a6, a7⟩ := B.ch j u hj hu
      refine ⟨i', z', t', b', m', a1, by rw [List.getElem?_append_left (by (first | lia | omega))]; exact a2, ?_, ?_, a5, by rw [List.getElem?_append_left (by (first | lia | omega))]; exact a6, by rw [List.getElem?_append_left (by (first | lia | omega))]; exact a7⟩
      · rw [valV_put, if_neg fun q => ?_]
        · exact a3
        · have q : u = z := Sum.inl.inj q
          exact hz (q ▸ List.mem_of_getElem? hu)
      · rw [upd_ne (ne_of a4 B.hq (by intro q; cases q)), upd_ne (ne_of a4 B.hd (by intro q; cases q)), upd_ne (ne_of_none a4 ht)]
        exact a4
    · refine ⟨i, y, t, b, m, hil, by rw [List.getElem?_append_left hil]; exact hi, by rw [valV_put, if_pos rfl], ?_, hb, by rw [List.getElem?_append_left (by (first | lia | omega))]; exact hm, lastd⟩
      rw [upd_ne ntq, upd_ne ntd]
      exact upd_same
  · rw [List.getElem?_append_left (by (first | lia | omega))]
    exact B.d0
  · refine List.pairwise_append.mpr ⟨B.mono, by simp, fun a ha c hc => ?_⟩
    rw [List.mem_singleton] at hc
    rw [hc]
    exact ub a ha
  · by_cases hjl : j < ds.length
    · rw [List.getElem?_append_left hjl] at hk
      exact B.dj j k hk
    · have hj2 : j = ds.length := by
        have := (List.getElem?_eq_some_iff.mp hk).1
        rw [List.length_append, List.length_singleton] at this
        (first | lia | omega)
      rw [hj2, dl, lastd] at hk
      cases hk
      have := B.dj i m hm
      (first | lia | omega)
section
variable {P : Program} {w : World} {K : PySem.W.Frag} {mg : Str → Option Value} {base : Heap} {CE CS CQ CT : Addr}

/-! reached_from -/
inductive spReachI  (vs : List V) (H : Hp) (Q : VK) (E : XK) : Prop
  | mk (sa : Addr) (n : Nat) (L : Nat → PP) (x : Int) : (vs = [.ref sa, .int x]) → (StepsAt H sa n L) → (n ≤ 100) → (0 ≤ x) → (x < n) → ((∀ k, k < n → ∀ p ∈ L k, 0 ≤ p.2 ∧ p.2 < n)) → (∀ (H' : Hp) (d qa : Addr) (kvs : List (Key × V)) (qs : List Int) (ds : List Nat), BF H H' d qa L n x kvs qs ds → H d = none → (∀ m y, RLn L x m y → ∃ (j k : Nat), qs[j]? = some y ∧ ds[j]? = some k ∧ k ≤ m) → Q (.ref d) H') → spReachI  vs H Q E
def spReach  : Sp := fun vs H Q E => spReachI  vs H Q E
theorem scReach : FnScope ["steps", "start", "came_by", "queue", "place", "quarter", "bridge", "beyond"] ["steps", "start"] (defScope sReach) := ⟨rfl, rfl, rfl, by decide +kernel, rfl, by decide +kernel, by decide +kernel⟩
def plc : St → Nat := fun σ => match (σ[4]? : Option (Option V)) with
  | some (some (V.int i)) => i.toNat
  | _ => 0
theorem ok_reach {f : Addr} {fd : FuncData} (T : Txt K mg CE CS CQ CT) (F : Fun K "reached_from" "reached_from" sReach f fd) : FnOk P w K mg base CX0 1 f fd ["steps", "start"] spReach := by
  refine F.ok scReach (fun vs H Q E h => ?_) (fun cdv A outer s H vs Q E hr h => ?_)
  · obtain ⟨sa, n, L, x, rfl, _⟩ := h
    rfl
  · obtain ⟨sa, n, L, x, rfl, hsa, hn, hx0, hx1, hL, kQ⟩ := h
    have hu := hu_of hr
    refine ⟨_, pss_cons (ps_set (i := 2) scReach.nd rfl (Or.inl rfl) (pe_disp (pps_cons (pv 1) pe_non pps_nil) rfl rfl (by simp) (by decide)))
      (pss_cons (ps_set (i := 3) scReach.nd rfl (Or.inl rfl) (pe_lst (pa_cons (pv 1) pa_nil)))
      (pss_cons (ps_set (i := 4) scReach.nd rfl (Or.inl rfl) pe_int)
      (pss_cons (ps_while PassesOwn.never (pt_cmpR op_lt (pv 4) (pe_callB c_len (by rfl) T.len PySem.boot_len (pa_cons (pv 3) pa_nil)) (nomark _))
        (pss_cons (ps_set (i := 5) scReach.nd rfl (Or.inl rfl) (pe_ix ix_list (pv 3) (pv 4) (fun _ _ => rfl)))
        (pss_cons (ps_for PassesOwn.never rfl (pi_list (pe_ix ix_list (pv 0) (pv 5) (fun _ _ => rfl))) (pg_tup (n := 2) rfl (pgs_cons (pg_name (i := 6) scReach.nd rfl (Or.inl rfl)) (pgs_cons (pg_name (i := 7) scReach.nd rfl (Or.inl rfl)) pgs_nil)))
          (pss_one (ps_if (pt_cmp (pc_dnotin hu (pv 7) (pv 2)))
            (pss_cons (ps_dput hu (pv 2) (pv 7) (pe_tup (pa_cons (pv 6) (pa_cons (pv 5) pa_nil))) rfl)
            (pss_one (ps_expr (pe_bm PySem.F.plainAttrs_list PySem.F.slot_list_append PySem.F.type_list_append mt_append (pv 3) (pa_cons (pv 7) pa_nil))))) pss_nil)))
        (pss_one (ps_aug (i := 4) scReach.nd rfl (Or.inl rfl) pe_int ip_add)))))
      (pss_one (ps_ret (pv 2)))))), ?_⟩
    try dsimp only [cx_of, cx_nox, cx_comp]
    intro d hd
    refine ⟨_, rfl, upd_same, [(Sum.inl x, .non)], rfl, by show 1 ≤ 15; decide, ?_⟩
    have e0 : upd (upd H d (.dK [])) d (.dK (mergeK [] [(Sum.inl x, V.non)])) = upd H d (.dK [(Sum.inl x, V.non)]) := by rw [upd_upd]; rfl
    rw [e0]
    refine ⟨_, rfl, by show 1 ≤ sizeLine; decide, fun qa hqa => ?_⟩
    have hqa' : H qa = none := (Same.rfl'.new (o := HO.dK [(Sum.inl x, V.non)]) hd).free hqa
    have ndq : d ≠ qa := ne_of_none upd_same hqa
    have B0 : BF H (upd (upd H d (.dK [(Sum.inl x, V.non)])) qa (.lst [V.int x])) d qa L n x [(Sum.inl x, V.non)] [x] [0] :=
      ⟨(Same.rfl'.new hd).tr (Same.rfl'.new hqa), by rw [upd_ne ndq]; exact upd_same, upd_same, rfl, by simp, rfl, fun y hy => by rw [List.mem_singleton] at hy; rw [hy]; exact ⟨hx0, hx1⟩, fun j y m hy hm => by
        have := (List.getElem?_eq_some_iff.mp hy).1
        have e : j = 0 := by simp at this; (first | lia | omega)
        subst e
        cases hy
        cases hm
        exact .refl, valV_pos rfl, fun j y hj hy => by
        have := (List.getElem?_eq_some_iff.mp hy).1
        simp at this
        (first | lia | omega), rfl, rfl, by simp, fun j m hm => by
        have := (List.getElem?_eq_some_iff.mp hm).1
        have e : j = 0 := by simp at this; (first | lia | omega)
        subst e
        cases hm
        exact Nat.le_refl _⟩
    refine while_by (fun σ H2 => ∃ kvs qs ds pl u v z, BF H H2 d qa L n x kvs qs ds ∧ pl ≤ qs.length ∧ (∀ i, i < pl → ∀ y m, qs[i]? = some y → ds[i]? = some m → ∀ p ∈ L y.toNat, ∃ (j k : Nat), qs[j]? = some p.2 ∧ ds[j]? = some k ∧ k ≤ m + 1) ∧ (∀ m, ds[pl]? = some m → ∀ k ∈ ds, k ≤ m + 1) ∧ σ = [some (.ref sa), some (.int x), some (.ref d), some (.ref qa), some (.int ((pl : Nat) : Int)), u, v, z])
      (fun σ _ => n - plc σ) ⟨_, [x], [0], 0, _, _, _, B0, by simp, fun i hi => absurd hi (by (first | lia | omega)), fun m hm k hk => (by rw [List.mem_singleton] at hk; (first | lia | omega)), rfl⟩ ?_ ?_
    · rintro σ H2 ⟨kvs, qs, ds, pl, u, v, z, B, hpl, hcl, hub, rfl⟩
      refine ⟨_, rfl, _, rfl, qa, _, rfl, .inl (SqL.of B.hq), _, _, rfl, rfl, _, rfl, ?_⟩
      rw [List.length_map]
      have hlen := B.len
      by_cases hlt : pl < qs.length
      rotate_left
      · rw [decide_eq_false (show ¬ ((pl : Nat) : Int) < (qs.length : Int) by (first | lia | omega))]
        refine iteF ⟨_, rfl, kQ H2 d qa kvs qs ds B hd fun m y hy => ?_⟩
        induction hy with
        | refl => exact ⟨0, 0, B.first, B.d0, Nat.le_refl _⟩
        | @step m y' z' b' _ hb ih =>
          obtain ⟨i, k, hi, hk, hkm⟩ := ih
          have hil := (List.getElem?_eq_some_iff.mp hi).1
          obtain ⟨j', k', a1, a2, a3⟩ := hcl i (by (first | lia | omega)) y' k hi hk (b', z') hb
          exact ⟨j', k', a1, a2, by (first | lia | omega)⟩
      rw [decide_eq_true (show ((pl : Nat) : Int) < (qs.length : Int) by (first | lia | omega))]
      obtain ⟨y, hy⟩ : ∃ y, qs[pl]? = some y := ⟨_, List.getElem?_eq_getElem hlt⟩
      obtain ⟨hy0, hy1⟩ := B.rng y (List.mem_of_getElem? hy)
      have hdl := B.dl
      obtain ⟨dm, hdm⟩ : ∃ dm, ds[pl]? = some dm := ⟨_, List.getElem?_eq_getElem (by (first | lia | omega))⟩
      have hub0 := hub dm hdm
      have ey : ((y.toNat : Nat) : Int) = y := by (first | lia | omega)
      obtain ⟨as, ha, hal, hls⟩ := (hsa.same B.same).ex
      obtain ⟨a, hay⟩ : ∃ a, as[y.toNat]? = some a := ⟨_, List.getElem?_eq_getElem (by (first | lia | omega))⟩
      obtain ⟨ts, hts, hpv⟩ := hls _ a hay
      have hm : (as.map V.ref)[y.toNat]? = some (.ref a) := by rw [List.getElem?_map, hay]; rfl
      refine iteT ⟨_, rfl, _, rfl, qa, _, _, _, rfl, rfl, SqL.of B.hq, atI_nat (v := .int y) (by rw [List.getElem?_map, hy]; rfl), ?_⟩
      refine ⟨_, rfl, _, rfl, sa, _, _, V.ref a, rfl, rfl, SqL.of ha, by rw [← ey]; exact atI_nat hm, a, rfl, ⟨_, SqL.of hts⟩, ?_⟩
      obtain ⟨as0, ha0, hal0, hls0⟩ := hsa.ex
      have eas : as = as0 := by
        have h1 := B.same _ _ ha0
        rw [ha] at h1
        exact (List.map_inj_right (fun _ _ e => V.ref.inj e)).mp (HO.lst.inj (Option.some.inj h1))
      subst eas
      obtain ⟨ts0, hts0, hpv0⟩ := hls0 _ a hay
      have ets : ts = ts0 := by
        have h1 := B.same _ _ hts0
        rw [hts] at h1
        cases h1
        rfl
      subst ets
      refine for_list (K := K) (a := a) (xs := ts) (fun j σ H3 => ∃ kvs' qs' ds' v' z', BF H H3 d qa L n x kvs' qs' ds' ∧ (∃ more, qs' = qs ++ more) ∧ (∃ mored, ds' = ds ++ mored) ∧ (∀ k ∈ ds', k ≤ dm + 1) ∧ (∀ p ∈ (L y.toNat).take j, p.2 ∈ qs') ∧ σ = [some (.ref sa), some (.int x), some (.ref d), some (.ref qa), some (.int ((pl : Nat) : Int)), some (.int y), v', z'])
        ⟨kvs, qs, ds, _, _, B, ⟨[], by simp⟩, ⟨[], by simp⟩, hub0, fun p hp => by simp at hp, rfl⟩ (fun j σ H3 _ ⟨_, _, _, _, _, B3, _⟩ => SqL.of (B3.same _ _ hts0)) ?_ ?_
      · rintro j tv σ H3 hj ⟨kvs', qs', ds', v', z', B3, ⟨more, emore⟩, ⟨mored, emored⟩, hub3, hcl3, rfl⟩
        obtain ⟨pr, hpr, ta, rfl, hta⟩ := (hpv0.same B3.same).get hj
        have hmem : pr ∈ L y.toNat := List.mem_of_getElem? hpr
        obtain ⟨hr0, hr1⟩ := hL y.toNat (by (first | lia | omega)) pr hmem
        have et := take_snoc' hpr
        refine ⟨ta, _, rfl, SqT.of hta, rfl, _, _, rfl, _, _, rfl, rfl, ?_⟩
        refine ⟨_, rfl, _, rfl, d, _, rfl, DGet.k (k := Sum.inl pr.2) B3.hd, _, rfl, ?_⟩
        have hmm := B3.mem pr.2
        cases ev : valV kvs' (Sum.inl pr.2) with
        | some vv =>
          rw [ev] at hmm
          have hin := hmm.mp rfl
          refine iteF ⟨kvs', qs', ds', _, _, B3, ⟨more, emore⟩, ⟨mored, emored⟩, hub3, fun p hp => ?_, rfl⟩
          rw [et] at hp
          rcases List.mem_append.mp hp with hp | hp
          · exact hcl3 p hp
          · rw [List.mem_singleton] at hp
            rw [hp]
            exact hin
        | none =>
          rw [ev] at hmm
          have hnin : pr.2 ∉ qs' := fun z => by
            have := hmm.mpr z
            cases this
          have hl3 := B3.len
          have hk3 : kvs'.length = qs'.length := by
            have := congrArg List.length B3.keys
            simpa using this
          refine iteT ⟨_, rfl, _, rfl, by show 2 ≤ sizeLine; decide, fun t ht => ?_⟩
          have ntd : d ≠ t := ne_of_none B3.hd ht
          have ntq : qa ≠ t := ne_of_none B3.hq ht
          refine ⟨_, rfl, _, rfl, d, _, rfl, DPut.k (k := Sum.inl pr.2) (kvs := kvs') (by rw [upd_ne ntd]; exact B3.hd) (small1000 (by (first | lia | omega))), ?_⟩
          have hq4 : (upd (upd H3 t (.tup [V.int pr.1, V.int y])) d (.dK (putK kvs' (Sum.inl pr.2) (.ref t)))) qa = some (.lst (qs'.map V.int)) := by
            rw [upd_ne (Ne.symm ndq), upd_ne ntq]
            exact B3.hq
          refine ⟨_, rfl, .inl ⟨rfl, _, SqL.of hq4⟩, _, rfl, qa, _, _, rfl, rfl, hq4, by rw [List.length_map]; exact small1000 (by (first | lia | omega)), ?_⟩
          have hyi : qs'[pl]? = some y := by rw [emore, List.getElem?_append_left hlt]; exact hy
          have hdi : ds'[pl]? = some dm := by rw [emored, List.getElem?_append_left (by (first | lia | omega))]; exact hdm
          refine ⟨_, qs' ++ [pr.2], ds' ++ [dm + 1], _, _, B3.push (b := pr.1) hd hqa' hyi hdi hub3 hnin hmem ⟨hr0, hr1⟩ ht, ⟨more ++ [pr.2], by rw [emore, List.append_assoc]⟩, ⟨mored ++ [dm + 1], by rw [emored, List.append_assoc]⟩, fun k hk => ?_, fun p hp => ?_, rfl⟩
          · rcases List.mem_append.mp hk with hk | hk
            · exact hub3 k hk
            · rw [List.mem_singleton] at hk
              (first | lia | omega)
          rw [et] at hp
          rcases List.mem_append.mp hp with hp | hp
          · exact List.mem_append_left _ (hcl3 p hp)
          · rw [List.mem_singleton] at hp
            rw [hp]
            simp
      · rintro σ H3 ⟨kvs', qs', ds', v', z', B3, ⟨more, emore⟩, ⟨mored, emored⟩, hub3, hcl3, rfl⟩
        rw [hpv0.length, List.take_length] at hcl3
        have hdi : ds'[pl]? = some dm := by rw [emored, List.getElem?_append_left (by (first | lia | omega))]; exact hdm
        have dl3 := B3.dl
        refine ⟨_, rfl, _, _, rfl, rfl, ⟨⟨kvs', qs', ds', pl + 1, _, _, _, B3, ?_, fun i hi y' m' hy' hm' p hp => ?_, fun m hm k hk => ?_, rfl⟩, ?_⟩⟩
        · rw [emore, List.length_append]
          (first | lia | omega)
        · by_cases e : i = pl
          · subst e
            rw [emore, List.getElem?_append_left hlt, hy] at hy'
            cases hy'
            rw [hdi] at hm'
            cases hm'
            obtain ⟨j', hj', ej⟩ := List.mem_iff_getElem.mp (hcl3 p hp)
            exact ⟨j', ds'[j']'(by (first | lia | omega)), by rw [List.getElem?_eq_getElem hj', ej], List.getElem?_eq_getElem (by (first | lia | omega)), hub3 _ (List.getElem_mem _)⟩
          · rw [emore, List.getElem?_append_left (by (first | lia | omega))] at hy'
            rw [emored, List.getElem?_append_left (by (first | lia | omega))] at hm'
            obtain ⟨j', k', a1, a2, a3⟩ := hcl i (by (first | lia | omega)) y' m' hy' hm' p hp
            have l1 := (List.getElem?_eq_some_iff.mp a1).1
            have l2 := (List.getElem?_eq_some_iff.mp a2).1
            exact ⟨j', k', by rw [emore, List.getElem?_append_left l1]; exact a1, by rw [emored, List.getElem?_append_left l2]; exact a2, a3⟩
        · have h1 := hub3 k hk
          obtain ⟨l1, e1⟩ := List.getElem?_eq_some_iff.mp hm
          obtain ⟨l2, e2⟩ := List.getElem?_eq_some_iff.mp hdi
          have := List.pairwise_iff_getElem.mp B3.mono pl (pl + 1) l2 l1 (by (first | lia | omega))
          rw [e1, e2] at this
          (first | lia | omega)
        · show n - ((pl : Int) + 1).toNat < n - ((pl : Nat) : Int).toNat
          (first | lia | omega)
    · rintro σ H2 Q1 Q2 k ⟨a1, b1, a2, b2, a3, a4, b3, b4, a5, a6, b5, b6, c1, c2, q⟩
      exact ⟨a1, b1, a2, b2, a3, a4, b3, b4, a5, a6, b5, b6, c1, c2, k _ _ q⟩
end
end K06
namespace K06
open PySem L2 XM
/-! plain mathematics: ways -/
inductive Pth (L : Nat → PP) : Int → List (Int × Int) → Int → Prop
  | nil {y : Int} : Pth L y [] y
  | cons {x z y b : Int} {tl : List (Int × Int)} : (b, z) ∈ L x.toNat → Pth L z tl y → Pth L x ((b, z) :: tl) y
/-- steps that go back -/
structure Sym (L : Nat → PP) (n : Nat) : Prop where
  rng : ∀ k, k < n → ∀ p ∈ L k, 0 ≤ p.2 ∧ p.2 < n
  back : ∀ k, k < n → ∀ p ∈ L k, (p.1, (k : Int)) ∈ L p.2.toNat
theorem stp_sym {ps : PP} {bs : List Int} {q : Int} (hok : ∀ p ∈ ps, okPair q p = true) (hbs : ∀ b ∈ bs, 0 ≤ b ∧ b < ps.length) : Sym (stp ps bs) q.toNat := by
  have ends : ∀ b ∈ bs, (0 ≤ (eb ps b).1 ∧ (eb ps b).1 < q) ∧ (0 ≤ (eb ps b).2 ∧ (eb ps b).2 < q) := fun b hb => by
    obtain ⟨h0, h1⟩ := hbs b hb
    have hl : b.toNat < ps.length := by (first | lia | omega)
    have e : eb ps b = ps[b.toNat] := getD_at (List.getElem?_eq_getElem hl)
    have := hok _ (List.getElem_mem hl)
    unfold okPair at this
    simp only [Bool.and_eq_true, decide_eq_true_eq] at this
    rw [e]
    exact ⟨this.1, this.2.1⟩
  constructor
  · rintro k hk ⟨b, z⟩ hp
    obtain ⟨hb, ⟨_, rfl⟩ | ⟨_, rfl⟩⟩ := mem_stp.mp hp
    · have := (ends b hb).2
      exact ⟨this.1, by have := this.2; (first | lia | omega)⟩
    · have := (ends b hb).1
      exact ⟨this.1, by have := this.2; (first | lia | omega)⟩
  · rintro k hk ⟨b, z⟩ hp
    obtain ⟨hb, ⟨e, rfl⟩ | ⟨e, rfl⟩⟩ := mem_stp.mp hp
    · refine mem_stp.mpr ⟨hb, .inr ⟨?_, e.symm⟩⟩
      have := (ends b hb).2
      show (eb ps b).2 = (((eb ps b).2.toNat : Nat) : Int)
      (first | lia | omega)
    · refine mem_stp.mpr ⟨hb, .inl ⟨?_, e.symm⟩⟩
      have := (ends b hb).1
      show (eb ps b).1 = (((eb ps b).1.toNat : Nat) : Int)
      (first | lia | omega)
theorem RLn.rng {L : Nat → PP} {n m : Nat} {x y : Int} (hL : ∀ k, k < n → ∀ p ∈ L k, 0 ≤ p.2 ∧ p.2 < n) (hx : 0 ≤ x ∧ x < n) (h : RLn L x m y) : 0 ≤ y ∧ y < n := by
  induction h with
  | refl => exact hx
  | @step m y' z b _ hb ih => exact hL y'.toNat (by (first | lia | omega)) (b, z) hb
theorem nodup_ix {qs : List Int} (h : qs.Nodup) {i j : Nat} {y : Int} (hi : qs[i]? = some y) (hj : qs[j]? = some y) : i = j := by
  obtain ⟨l1, e1⟩ := List.getElem?_eq_some_iff.mp hi
  obtain ⟨l2, e2⟩ := List.getElem?_eq_some_iff.mp hj
  rcases Nat.lt_trichotomy i j with h' | h' | h'
  · exact absurd (e1.trans e2.symm) (List.pairwise_iff_getElem.mp h i j l1 l2 h')
  · exact h'
  · exact absurd (e2.trans e1.symm) (List.pairwise_iff_getElem.mp h j i l2 l1 h')
/-- a way as it is told -/
structure Way (L : Nat → PP) (n : Nat) (x y : Int) (tl : List (Int × Int)) : Prop where
  pth : Pth L x tl y
  nd : (x :: tl.map (·.2)).Nodup
  rl : RLn L x tl.length y
  least : ∀ m, RLn L x m y → tl.length ≤ m
  lt : tl.length < n
section
variable {P : Program} {w : World} {K : PySem.W.Frag} {mg : Str → Option Value} {base : Heap} {CE CS CQ CT : Addr}

/-! way_to -/
inductive spWayToI  (vs : List V) (H2 : Hp) (Q : VK) (E : XK) : Prop
  | mk (H1 : Hp) (d qa : Addr) (L : Nat → PP) (n : Nat) (x y : Int) (kvs : List (Key × V)) (qs : List Int) (ds : List Nat) : (vs = [.int y, .ref d]) → (BF H1 H2 d qa L n x kvs qs ds) → (n ≤ 100) → ((∀ (m : Nat) (y : Int), RLn L x m y → ∃ (j k : Nat), qs[j]? = some y ∧ ds[j]? = some k ∧ k ≤ m)) → (((∀ m, ¬ RLn L x m y) → ∀ H', Same H2 H' → Q .non H')) → ((∀ (H' : Hp) (d : Addr) (tl : List (Int × Int)), Same H2 H' → H2 d = none → LI H' d (tl.map (·.1)) → Way L n x y tl → Q (.ref d) H')) → spWayToI  vs H2 Q E
def spWayTo  : Sp := fun vs H2 Q E => spWayToI  vs H2 Q E
theorem scWayTo : FnScope ["quarter", "came_by", "way", "step"] ["quarter", "came_by"] (defScope sWayTo) := ⟨rfl, rfl, rfl, by decide +kernel, rfl, by decide +kernel, by decide +kernel⟩
def lenAt (wa : Addr) (H : Hp) : Nat := match H wa with
  | some (.lst xs) => xs.length
  | _ => 0
theorem ok_wayTo {f : Addr} {fd : FuncData} (T : Txt K mg CE CS CQ CT) (F : Fun K "way_to" "way_to" sWayTo f fd) : FnOk P w K mg base CX0 1 f fd ["quarter", "came_by"] spWayTo := by
  refine F.ok scWayTo (fun vs H Q E h => ?_) (fun cdv A outer s H2 vs Q E hr h => ?_)
  · obtain ⟨H1, d, qa, L, n, x, y, kvs, qs, ds, rfl, _⟩ := h
    rfl
  · obtain ⟨H1, d, qa, L, n, x, y, kvs, qs, ds, rfl, B, hn100, hcomp, kN, kW⟩ := h
    have hu := hu_of hr
    refine ⟨_, pss_cons (ps_if (pt_cmp (pc_dnotin hu (pv 0) (pv 1))) (pss_one (ps_ret pe_non)) pss_nil)
      (pss_cons (ps_set (i := 2) scWayTo.nd rfl (Or.inl rfl) (pe_lst pa_nil))
      (pss_cons (ps_set (i := 3) scWayTo.nd rfl (Or.inl rfl) (pe_dget hu (pv 1) (pv 0) (fun _ _ => rfl)))
      (pss_cons (ps_while PassesOwn.never (pt_cmp (pc_notN (pv 3)))
        (pss_cons (ps_expr (pe_bm PySem.F.plainAttrs_list PySem.F.slot_list_append PySem.F.type_list_append mt_append (pv 2) (pa_cons (pe_ix ix_tup (pv 3) pe_int (fun _ _ => rfl)) pa_nil)))
        (pss_one (ps_set (i := 3) scWayTo.nd rfl (Or.inl rfl) (pe_dget hu (pv 1) (pe_ix ix_tup (pv 3) pe_int (fun _ _ => rfl)) (fun _ _ => rfl))))))
      (pss_cons (ps_expr (pe_bm0 PySem.F.plainAttrs_list PySem.F.slot_list_reverse PySem.F.type_list_reverse mt_reverse (pv 2)))
      (pss_one (ps_ret (pv 2))))))), ?_⟩
    try dsimp only [cx_of, cx_nox, cx_comp]
    have hmm := B.mem y
    refine ⟨_, rfl, _, rfl, d, _, rfl, DGet.k (k := Sum.inl y) B.hd, _, rfl, ?_⟩
    cases ev : valV kvs (Sum.inl y) with
    | none =>
      rw [ev] at hmm
      refine iteT (kN (fun m hm => ?_) H2 Same.rfl')
      obtain ⟨j, k, a1, _⟩ := hcomp m y hm
      have := hmm.mpr (List.mem_of_getElem? a1)
      cases this
    | some v0 =>
      rw [ev] at hmm
      obtain ⟨j0, hj0, ej0⟩ := List.mem_iff_getElem.mp (hmm.mp rfl)
      have hj0' : qs[j0]? = some y := by rw [List.getElem?_eq_getElem hj0, ej0]
      have hdl := B.dl
      obtain ⟨m0, hm0⟩ : ∃ m0, ds[j0]? = some m0 := ⟨_, List.getElem?_eq_getElem (by (first | lia | omega))⟩
      refine iteF ⟨by show 0 ≤ sizeLine; decide, fun wa hwa => ?_⟩
      have t0 : Same H2 (upd H2 wa (.lst [])) := Same.rfl'.new hwa
      have g0 := DGet.k (k := Sum.inl y) (t0 _ _ B.hd)
      rw [ev] at g0
      refine ⟨_, rfl, _, rfl, d, v0, rfl, g0, ?_⟩
      have hmq : m0 < n := by
        have := B.dj j0 m0 hm0
        have := B.len
        (first | lia | omega)
      have hleast : ∀ m, RLn L x m y → m0 ≤ m := fun m hm => by
        obtain ⟨j, k, a1, a2, a3⟩ := hcomp m y hm
        have l1 := (List.getElem?_eq_some_iff.mp a1).1
        have e : j = j0 := nodup_ix B.nd a1 hj0'
        rw [e, hm0] at a2
        cases a2
        exact a3
      refine while_by (fun σ H3 => ∃ (j : Nat) (yj : Int) (m : Nat) (tl : List (Int × Int)) (st : V), Same H2 H3 ∧ LI H3 wa (tl.map (·.1)).reverse ∧ qs[j]? = some yj ∧ ds[j]? = some m ∧ valV kvs (Sum.inl yj) = some st ∧ Pth L yj tl y ∧ (yj :: tl.map (·.2)).Nodup ∧ (∀ z ∈ tl.map (·.2), ∃ k, j < k ∧ qs[k]? = some z) ∧ tl.length + m = m0 ∧
          σ = [some (.int y), some (.ref d), some (.ref wa), some st]) (fun _ H3 => m0 + 1 - lenAt wa H3)
        ⟨j0, y, m0, [], v0, t0, upd_same, hj0', hm0, ev, .nil, by simp, fun z hz => by simp at hz, by simp, rfl⟩ ?_ ?_
      · rintro σ H3 ⟨j, yj, m, tl, st, s3, hwa3, hj, hm, hv, hpth, hnd, hidx, hlen, rfl⟩
        refine ⟨_, rfl, _, rfl, ?_⟩
        have hd3 : H3 d = some (.dK kvs) := s3 _ _ B.hd
        by_cases h0 : j = 0
        · subst h0
          have ex : yj = x := by
            have := B.first
            rw [hj] at this
            exact Option.some.inj this
          subst ex
          rw [B.v0] at hv
          cases hv
          have hm' : m = 0 := by
            have := B.d0
            rw [hm] at this
            exact Option.some.inj this
          refine iteF ⟨_, rfl, .inl ⟨rfl, _, SqL.of hwa3⟩, wa, _, rfl, rfl, hwa3, _, rfl, ?_⟩
          refine kW _ wa tl (fun b o e => ?_) hwa ?_ ⟨hpth, hnd, ?_, fun m' h' => ?_, by (first | lia | omega)⟩
          · rw [upd_ne (ne_of_none e hwa)]
            exact s3 _ _ e
          · rw [LI, upd_same, ← List.map_reverse, List.reverse_reverse]
          · have := B.rl j0 y m0 hj0' hm0
            rw [show tl.length = m0 by (first | lia | omega)]
            exact this
          · have := hleast m' h'
            (first | lia | omega)
        · obtain ⟨i, z, t, b, m', a1, a2, a3, a4, a5, a6, a7⟩ := B.ch j yj (by (first | lia | omega)) hj
          rw [hv] at a3
          cases a3
          rw [hm] at a7
          have em : m = m' + 1 := Option.some.inj a7
          have at3 : H3 t = some (.tup [.int b, .int z]) := s3 _ _ a4
          refine iteT ⟨_, rfl, .inl ⟨rfl, _, SqL.of hwa3⟩, _, rfl, t, _, _, _, rfl, rfl, SqT.of at3, atI_nat (j := 0) rfl, wa, _, _, rfl, rfl, hwa3, by rw [List.length_map, List.length_reverse, List.length_map]; exact small1000 (by (first | lia | omega)), ?_⟩
          have k4 : ∀ c o, H2 c = some o → (upd H3 wa (.lst (((tl.map (·.1)).reverse).map V.int ++ [V.int b]))) c = some o := fun c o e => by
            rw [upd_ne (ne_of_none e hwa)]
            exact s3 _ _ e
          obtain ⟨vz, hvz⟩ : ∃ vz, valV kvs (Sum.inl z) = some vz := by
            have := (B.mem z).mpr (List.mem_of_getElem? a2)
            exact Option.isSome_iff_exists.mp this
          have g3 := DGet.k (k := Sum.inl z) (k4 _ _ B.hd)
          rw [hvz] at g3
          refine ⟨_, rfl, _, rfl, t, _, _, _, rfl, rfl, SqT.of (k4 _ _ a4), atI_nat (j := 1) rfl, d, vz, rfl, g3, ?_⟩
          refine ⟨⟨i, z, m', (b, yj) :: tl, vz, k4, ?_, a2, a6, hvz, .cons a5 hpth, ?_, ?_, by rw [List.length_cons]; (first | lia | omega), rfl⟩, ?_⟩
          · rw [LI, upd_same, List.map_cons, List.reverse_cons, List.map_append]
            rfl
          · rw [List.map_cons]
            refine List.nodup_cons.mpr ⟨fun hz => ?_, hnd⟩
            have key : ∀ k, j ≤ k → qs[k]? = some z → False := fun k hk hkz => by
              have := nodup_ix B.nd hkz a2
              (first | lia | omega)
            rcases List.mem_cons.mp hz with e | e
            · exact key j (Nat.le_refl _) (by rw [e]; exact hj)
            · obtain ⟨k, hk, hkz⟩ := hidx z e
              exact key k (by (first | lia | omega)) hkz
          · intro u hu
            rcases List.mem_cons.mp hu with e | e
            · exact ⟨j, a1, by rw [e]; exact hj⟩
            · obtain ⟨k, hk, hkz⟩ := hidx u e
              exact ⟨k, by (first | lia | omega), hkz⟩
          · have e1 : lenAt wa H3 = tl.length := by unfold lenAt; rw [hwa3]; simp
            have e2 : lenAt wa (upd H3 wa (.lst (((tl.map (·.1)).reverse).map V.int ++ [V.int b]))) = tl.length + 1 := by unfold lenAt; rw [upd_same]; simp
            rw [e1, e2]
            (first | lia | omega)
      · rintro σ H3 Q1 Q2 k ⟨a1, b1, a2, b2, q⟩
        exact ⟨a1, b1, a2, b2, k _ _ q⟩

/-! way_between -/
inductive spBetweenI (CT : Addr) (vs : List V) (H : Hp) (Q : VK) (E : XK) : Prop
  | mk (p l2 : Addr) (q : Int) (ys : List V) (ps : PP) (l : Addr) (bs : List Int) (x y : Int) : (vs = [.ref p, .ref l, .int x, .int y]) → (TownAt CT H p l2 q ys) → (PV H ys ps) → (fits q ps = true) → (LI H l bs) → (bs.length ≤ 100) → ((∀ b ∈ bs, 0 ≤ b ∧ b < ps.length)) → ((0 ≤ x ∧ x < q)) → (((∀ m, ¬ RLn (stp ps bs) x m y) → ∀ H', Same H H' → Q .non H')) → ((∀ (H' : Hp) (d : Addr) (tl : List (Int × Int)), Same H H' → H d = none → LI H' d (tl.map (·.1)) → Way (stp ps bs) q.toNat x y tl → Q (.ref d) H')) → spBetweenI CT vs H Q E
def spBetween (CT : Addr) : Sp := fun vs H Q E => spBetweenI CT vs H Q E
theorem scBetween : FnScope ["town", "some", "one", "other"] ["town", "some", "one", "other"] (defScope sBetween) := ⟨rfl, rfl, rfl, by decide +kernel, rfl, by decide +kernel, by decide +kernel⟩
theorem ok_between {f f1 f2 f3 : Addr} {fd fd1 fd2 fd3 : FuncData} (T : Txt K mg CE CS CQ CT) (F : Fun K "way_between" "way_between" sBetween f fd)
    (G1 : FnOk P w K mg base CX0 1 f1 fd1 ["town", "some"] (spSteps CT)) (b1 : Binds K fd1 ["town", "some"] []) (m1 : mg "steps_over" = some (.ref f1)) (k1 : PySem.W.keepIn K (.ref f1) = true)
    (G2 : FnOk P w K mg base CX0 1 f2 fd2 ["steps", "start"] spReach) (b2 : Binds K fd2 ["steps", "start"] []) (m2 : mg "reached_from" = some (.ref f2)) (k2 : PySem.W.keepIn K (.ref f2) = true)
    (G3 : FnOk P w K mg base CX0 1 f3 fd3 ["quarter", "came_by"] spWayTo) (b3 : Binds K fd3 ["quarter", "came_by"] []) (m3 : mg "way_to" = some (.ref f3)) (k3 : PySem.W.keepIn K (.ref f3) = true) :
    FnOk P w K mg base CX0 2 f fd ["town", "some", "one", "other"] (spBetween CT) := by
  refine F.ok scBetween (fun vs H Q E h => ?_) (fun cdv A outer s H vs Q E hr h => ?_)
  · obtain ⟨p, l2, q, ys, ps, l, bs, x, y, rfl, _⟩ := h
    rfl
  · obtain ⟨p, l2, q, ys, ps, l, bs, x, y, rfl, ht, hp, hft, hl, hbl, hbs, ⟨hx0, hx1⟩, kN, kW⟩ := h
    refine ⟨_, pss_one (ps_ret (pe_call G3 hr (by rfl) m3 k3 b3 .nil pass0 (pa_cons (pv 3) (pa_cons (pe_call G2 hr (by rfl) m2 k2 b2 .nil pass0 (pa_cons (pe_call G1 hr (by rfl) m1 k1 b1 .nil pass0 (pa_cons (pv 0) (pa_cons (pv 1) pa_nil))) (pa_cons (pv 2) pa_nil))) pa_nil)))), ?_⟩
    try dsimp only [cx_of, cx_nox, cx_comp]
    obtain ⟨⟨hq1, hq2⟩, h60, hok⟩ := fits_iff hft
    refine ⟨_, rfl, _, rfl, _, rfl, p, l2, q, ys, ps, l, bs, rfl, ht, hp, hft, hl, hbl, hbs, fun H1 sa s1 hsa => ?_⟩
    have S : Sym (stp ps bs) q.toNat := stp_sym hok hbs
    generalize stp ps bs = L at hsa S kN kW
    refine ⟨_, rfl, sa, q.toNat, L, x, rfl, hsa, by (first | lia | omega), hx0, by (first | lia | omega), S.rng, fun H2 d qa kvs qs ds B hd hcomp => ?_⟩
    have s2 := s1.tr B.same
    exact ⟨H1, d, qa, L, q.toNat, x, y, kvs, qs, ds, rfl, B, by (first | lia | omega), hcomp, fun h H' s' => kN h H' (s2.tr s'), fun H' d' tl s' hd' hl' hw => kW H' d' tl (s2.tr s') (s2.free hd') hl' hw⟩

end
end K06
namespace K06
open PySem L2 XM
theorem dd_len : ∀ (ns acc : List Int), (ns.foldl PyProof.Rows.step_dedup acc).length ≤ acc.length + ns.length
  | [], acc => by simp
  | n :: r, acc => by
    rw [List.foldl_cons]
    have h := dd_len r (PyProof.Rows.step_dedup acc n)
    have h2 : (PyProof.Rows.step_dedup acc n).length ≤ acc.length + 1 := by
      unfold PyProof.Rows.step_dedup
      split <;> simp
    rw [List.length_cons]
    (first | lia | omega)
theorem dd_iff : ∀ (ns acc : List Int), acc.Nodup → ((ns.foldl PyProof.Rows.step_dedup acc).length = acc.length + ns.length ↔ (acc ++ ns).Nodup)
  | [], acc, h => by simpa using h
  | n :: r, acc, h => by
    rw [List.foldl_cons]
    by_cases hm : n ∈ acc
    · have e : PyProof.Rows.step_dedup acc n = acc := by
        unfold PyProof.Rows.step_dedup
        rw [if_pos (by simpa using hm)]
      rw [e]
      have := dd_len r acc
      constructor
      · intro z
        rw [List.length_cons] at z
        (first | lia | omega)
      · intro z
        exact absurd rfl ((List.nodup_append.mp z).2.2 n hm n List.mem_cons_self)
    · have e : PyProof.Rows.step_dedup acc n = acc ++ [n] := by
        unfold PyProof.Rows.step_dedup
        rw [if_neg (by simpa using hm)]
      rw [e]
      have ih := dd_iff r (acc ++ [n]) (List.nodup_append.mpr ⟨h, by simp, fun a ha b hb => by
        rw [List.mem_singleton] at hb
        subst hb
        exact fun z => hm (z ▸ ha)⟩)
      rw [List.length_append, List.length_singleton, List.append_assoc] at ih
      rw [List.length_cons]
      constructor
      · intro z
        exact ih.mp (by (first | lia | omega))
      · intro z
        have := ih.mpr z
        (first | lia | omega)
theorem range_getD (ns : List Int) : ((List.range ns.length).map fun i => ns.getD i 0) = ns := by
  apply List.ext_getElem?
  intro i
  by_cases h : i < ns.length
  · rw [List.getElem?_map, List.getElem?_range h, List.getElem?_eq_getElem h]
    simp [List.getElem?_eq_getElem h]
  · rw [List.getElem?_eq_none (by simpa using h), List.getElem?_eq_none (by simpa using h)]
theorem distinct_iff (ns : List Int) : (distinct ns).length = ns.length ↔ ns.Nodup := by
  have e : distinct ns = ns.foldl PyProof.Rows.step_dedup [] := by
    unfold distinct PyProof.Rows.firstMet
    rw [range_getD]
  rw [e]
  simpa using dd_iff ns [] List.nodup_nil
inductive Rn (es : PP) (x : Int) : Nat → Int → Prop
  | refl : Rn es x 0 x
  | step {m : Nat} {y z : Int} : Rn es x m y → ((y, z) ∈ es ∨ (z, y) ∈ es) → Rn es x (m + 1) z
/-! plain mathematics: a way step by step -/
theorem Pth.at {L : Nat → PP} {x y : Int} {tl : List (Int × Int)} (h : Pth L x tl y) : ∀ {i : Nat} {b z : Int}, tl[i]? = some (b, z) → ∃ u, (x :: tl.map (·.2))[i]? = some u ∧ (b, z) ∈ L u.toNat := by
  induction h with
  | nil => intro i b z hi; simp at hi
  | @cons x z y b tl hb _ ih =>
    intro i b' z' hi
    cases i with
    | zero =>
      cases hi
      exact ⟨x, rfl, hb⟩
    | succ i =>
      obtain ⟨u, h1, h2⟩ := ih hi
      exact ⟨u, h1, h2⟩
theorem Pth.last {L : Nat → PP} {x y : Int} {tl : List (Int × Int)} (h : Pth L x tl y) : (x :: tl.map (·.2))[tl.length]? = some y := by
  induction h with
  | nil => rfl
  | cons _ _ ih => exact ih
theorem Pth.rng {L : Nat → PP} {n : Nat} (hL : ∀ k, k < n → ∀ p ∈ L k, 0 ≤ p.2 ∧ p.2 < n) {x y : Int} {tl : List (Int × Int)} (h : Pth L x tl y) : (0 ≤ x ∧ x < n) → ∀ u ∈ x :: tl.map (·.2), 0 ≤ u ∧ u < n := by
  induction h with
  | nil =>
    intro hx u hu
    simp at hu
    rw [hu]
    exact hx
  | @cons x z y b tl hb _ ih =>
    intro hx u hu
    rcases List.mem_cons.mp hu with e | hu
    · rw [e]
      exact hx
    · exact ih (hL x.toNat (by (first | lia | omega)) (b, z) hb) u hu
theorem rn_rl {ps : PP} {bs : List Int} {q : Int} (S : Sym (stp ps bs) q.toNat) {x y : Int} {m : Nat} (hx : 0 ≤ x ∧ x < q) : Rn (bs.map (eb ps)) x m y ↔ RLn (stp ps bs) x m y := by
  have hx' : 0 ≤ x ∧ x < q.toNat := by (first | lia | omega)
  constructor
  · intro h
    induction h with
    | refl => exact .refl
    | @step m y z _ he ih =>
      have hy := RLn.rng S.rng hx' ih
      have ey : ((y.toNat : Nat) : Int) = y := by (first | lia | omega)
      rcases he with he | he
      · obtain ⟨b, hb, e⟩ := List.mem_map.mp he
        exact .step ih (mem_stp.mpr ⟨hb, .inl ⟨by rw [e, ey], by rw [e]⟩⟩)
      · obtain ⟨b, hb, e⟩ := List.mem_map.mp he
        exact .step ih (mem_stp.mpr ⟨hb, .inr ⟨by rw [e, ey], by rw [e]⟩⟩)
  · intro h
    induction h with
    | refl => exact .refl
    | @step m y z b h0 hb ih =>
      have hy := RLn.rng S.rng hx' h0
      have ey : ((y.toNat : Nat) : Int) = y := by (first | lia | omega)
      obtain ⟨hm, ⟨e1, e2⟩ | ⟨e1, e2⟩⟩ := mem_stp.mp hb
      · refine .step ih (.inl (List.mem_map.mpr ⟨b, hm, ?_⟩))
        rw [ey] at e1
        rw [e2, ← e1]
      · refine .step ih (.inr (List.mem_map.mpr ⟨b, hm, ?_⟩))
        rw [ey] at e1
        rw [e2, ← e1]
/-! plain mathematics: joined -/
inductive RE (es : PP) (x : Int) : Int → Prop
  | refl : RE es x x
  | step {y z : Int} : RE es x y → ((y, z) ∈ es ∨ (z, y) ∈ es) → RE es x z
theorem RE.trans {es : PP} {x y z : Int} (h1 : RE es x y) (h2 : RE es y z) : RE es x z := by
  induction h2 with
  | refl => exact h1
  | step _ he ih => exact .step ih he
theorem RE.symm {es : PP} {x y : Int} (h : RE es x y) : RE es y x := by
  induction h with
  | refl => exact .refl
  | step _ he ih => exact (RE.step .refl he.symm).trans ih
theorem RE.mono {es es' : PP} (hs : ∀ p ∈ es, p ∈ es') {x y : Int} (h : RE es x y) : RE es' x y := by
  induction h with
  | refl => exact .refl
  | step _ he ih => exact .step ih (he.imp (hs _) (hs _))
theorem re_nil {x y : Int} (h : RE [] x y) : x = y := by
  cases h with
  | refl => rfl
  | step _ he => simp at he
theorem re_add {es : PP} {a b u v : Int} : RE (es ++ [(a, b)]) u v ↔ RE es u v ∨ (RE es u a ∧ RE es v b) ∨ (RE es u b ∧ RE es v a) := by
  constructor
  · intro h
    induction h with
    | refl => exact .inl .refl
    | @step y z _ he ih =>
      have cases3 : ((y, z) ∈ es ∨ (z, y) ∈ es) ∨ (y = a ∧ z = b) ∨ (y = b ∧ z = a) := by
        rcases he with he | he
        · rcases List.mem_append.mp he with h | h
          · exact .inl (.inl h)
          · have := List.mem_singleton.mp h
            exact .inr (.inl ⟨congrArg (·.1) this, congrArg (·.2) this⟩)
        · rcases List.mem_append.mp he with h | h
          · exact .inl (.inr h)
          · have := List.mem_singleton.mp h
            exact .inr (.inr ⟨congrArg (·.2) this, congrArg (·.1) this⟩)
      rcases cases3 with he | ⟨rfl, rfl⟩ | ⟨rfl, rfl⟩
      · rcases ih with h | ⟨h1, h2⟩ | ⟨h1, h2⟩
        · exact .inl (.step h he)
        · exact .inr (.inl ⟨h1, (RE.step .refl he.symm).trans h2⟩)
        · exact .inr (.inr ⟨h1, (RE.step .refl he.symm).trans h2⟩)
      · rcases ih with h | ⟨h1, h2⟩ | ⟨h1, h2⟩
        · exact .inr (.inl ⟨h, .refl⟩)
        · exact .inr (.inl ⟨h1, .refl⟩)
        · exact .inl h1
      · rcases ih with h | ⟨h1, h2⟩ | ⟨h1, h2⟩
        · exact .inr (.inr ⟨h, .refl⟩)
        · exact .inl h1
        · exact .inr (.inr ⟨h1, .refl⟩)
  · have mono : ∀ {x y : Int}, RE es x y → RE (es ++ [(a, b)]) x y := fun h => h.mono fun p hp => List.mem_append_left _ hp
    have e : RE (es ++ [(a, b)]) a b := .step .refl (.inl (by simp))
    rintro (h | ⟨h1, h2⟩ | ⟨h1, h2⟩)
    · exact mono h
    · exact ((mono h1).trans e).trans (mono h2).symm
    · exact ((mono h1).trans e.symm).trans (mono h2).symm
theorem re_rln {ps : PP} {bs : List Int} {q : Int} (S : Sym (stp ps bs) q.toNat) {x y : Int} (hx : 0 ≤ x ∧ x < q) : RE (bs.map (eb ps)) x y ↔ ∃ m, RLn (stp ps bs) x m y := by
  constructor
  · intro h
    suffices h' : ∃ m, Rn (bs.map (eb ps)) x m y by
      obtain ⟨m, hm⟩ := h'
      exact ⟨m, (rn_rl S hx).mp hm⟩
    induction h with
    | refl => exact ⟨0, .refl⟩
    | step _ he ih =>
      obtain ⟨m, hm⟩ := ih
      exact ⟨m + 1, .step hm he⟩
  · rintro ⟨m, hm⟩
    have := (rn_rl S hx).mpr hm
    clear hm
    induction this with
    | refl => exact .refl
    | step _ he ih => exact .step ih he
/-- the j-th of these closes a ring with those ahead of it -/
def Clo (ps : PP) (bs : List Int) (j : Nat) : Prop := ∃ b, bs[j]? = some b ∧ RE ((bs.take j).map (eb ps)) (eb ps b).1 (eb ps b).2
/-- a ring as it is told -/
structure Ring (ps : PP) (bs : List Int) (q : Int) (fs : List Int) : Prop where
  ex : ∃ (j : Nat) (b : Int) (tl : List (Int × Int)), bs[j]? = some b ∧ Way (stp ps (bs.take j)) q.toNat (eb ps b).1 (eb ps b).2 tl ∧ fs = tl.map (·.1) ++ [b]
/-! plain mathematics: marks -/
def CloE (es : PP) (j : Nat) : Prop := ∃ e, es[j]? = some e ∧ RE (es.take j) e.1 e.2
/-! each_once -/
def once (nss : List (List Int)) : Bool := decide ((distinct nss.flatten).length = nss.flatten.length)
theorem once_iff (nss : List (List Int)) : once nss = true ↔ nss.flatten.Nodup := by
  unfold once
  rw [decide_eq_true_eq]
  exact distinct_iff _
section
variable {P : Program} {w : World} {K : PySem.W.Frag} {mg : Str → Option Value} {base : Heap} {CE CS CQ CT : Addr}
/-! ring_over -/
inductive spRingI (CT CS : Addr) (vs : List V) (H : Hp) (Q : VK) (E : XK) : Prop
  | mk (p l2 : Addr) (q : Int) (ys : List V) (ps : PP) (l : Addr) (bs : List Int) : (vs = [.ref p, .ref l]) → (TownAt CT H p l2 q ys) → (PV H ys ps) → (fits q ps = true) → (LI H l bs) → (bs.length ≤ 100) → ((risesB bs ps.length = true → ((∀ j, ¬ Clo ps bs j) → ∀ H', Same H H' → Q .non H') ∧ (∀ (H' : Hp) (d : Addr) (fs : List Int), Same H H' → H d = none → LI H' d fs → Ring ps bs q fs → (∃ j, Clo ps bs j) → Q (.ref d) H'))) → ((risesB bs ps.length = false → ∀ H', Same H H' → E (.ref CS) none H')) → spRingI CT CS vs H Q E
def spRing (CT CS : Addr) : Sp := fun vs H Q E => spRingI CT CS vs H Q E
theorem scRing : FnScope ["town", "some", "ringless", "bridge", "ends", "way"] ["town", "some"] (defScope sRing) := ⟨rfl, rfl, rfl, by decide +kernel, rfl, by decide +kernel, by decide +kernel⟩
theorem ok_ring {f f1 f2 : Addr} {fd fd1 fd2 : FuncData} (T : Txt K mg CE CS CQ CT) (F : Fun K "ring_over" "ring_over" sRing f fd)
    (G1 : FnOk P w K mg base (CXE P w) 3 f1 fd1 ["some", "bridges"] (spCheckS CS)) (b1 : Binds K fd1 ["some", "bridges"] []) (m1 : mg "check_some" = some (.ref f1)) (k1 : PySem.W.keepIn K (.ref f1) = true)
    (G2 : FnOk P w K mg base CX0 2 f2 fd2 ["town", "some", "one", "other"] (spBetween CT)) (b2 : Binds K fd2 ["town", "some", "one", "other"] []) (m2 : mg "way_between" = some (.ref f2)) (k2 : PySem.W.keepIn K (.ref f2) = true) :
    FnOk P w K mg base (CXE P w) 4 f fd ["town", "some"] (spRing CT CS) := by
  refine F.okE scRing (fun vs H Q E h => ?_) (fun cdv A outer s H vs Q E hr h => ?_)
  · obtain ⟨p, l2, q, ys, ps, l, bs, rfl, _⟩ := h
    rfl
  · obtain ⟨p, l2, q, ys, ps, l, bs, rfl, ⟨⟨dx, ht⟩, hl2⟩, hp, hft, hl, hbl, kQ, kE⟩ := h
    have lets := lets_cx (P := P) (w := w) (K := K) (mg := mg) (base := base) (N := ["town", "some", "ringless", "bridge", "ends", "way"]) (qual := "ring_over") (scope := defScope sRing) (f := f) (cd := cdv) (A := A) (outer := outer) (s := s) (H := H) (E := E)
    have hr2 := hr.mono (show 2 ≤ 3 by (first | lia | omega))
    refine ⟨_, pss_cons (ps_expr (pe_call G1 hr (by rfl) m1 k1 b1 .nil lets.pass (pa_cons (pv 1) (pa_cons (pe_fld (pv 0) rfl) pa_nil))))
      (pss_cons (ps_set (i := 2) scRing.nd rfl (Or.inl rfl) (pe_lst pa_nil))
      (pss_cons (ps_for lets.po rfl (pi_list (pv 1)) (pg_name (i := 3) scRing.nd rfl (Or.inl rfl))
        (pss_cons (ps_set (i := 4) scRing.nd rfl (Or.inl rfl) (pe_ix ix_list (pe_fld (pv 0) rfl) (pv 3) (fun _ _ => rfl)))
        (pss_cons (ps_set (i := 5) scRing.nd rfl (Or.inl rfl) (pe_call G2 hr2 (by rfl) m2 k2 b2 .nil pass0 (pa_cons (pv 0) (pa_cons (pv 2) (pa_cons (pe_ix ix_tup (pv 4) pe_int (fun _ _ => rfl)) (pa_cons (pe_ix ix_tup (pv 4) pe_int (fun _ _ => rfl)) pa_nil))))))
        (pss_cons (ps_if (pt_cmp (pc_notN (pv 5))) (pss_one (ps_ret (pe_op op_cat (pv 5) (pe_lst (pa_cons (pv 3) pa_nil))))) pss_nil)
        (pss_one (ps_expr (pe_bm PySem.F.plainAttrs_list PySem.F.slot_list_append PySem.F.type_list_append mt_append (pv 2) (pa_cons (pv 3) pa_nil))))))))
      (pss_one (ps_ret pe_non)))), ?_⟩
    try dsimp only [cx_of, cx_nox, cx_comp]
    obtain ⟨⟨hq1, hq2⟩, h60, hok⟩ := fits_iff hft
    have hlen := hp.length
    refine ⟨_, rfl, _, rfl, p, CT, dx, _, _, rfl, ht, T.cl, T.nb, flds_b _ _, l, l2, bs, ys, rfl, hl, hl2, by (first | lia | omega), fun hb H1 s1 => ?_, fun hb => kE (by rw [← hlen]; exact hb)⟩
    rw [hlen] at hb
    have hbs : ∀ b ∈ bs, 0 ≤ b ∧ b < ps.length := (risesB_iff.mp hb).2
    obtain ⟨kN, kR⟩ := kQ hb
    refine ⟨by show 0 ≤ sizeLine; decide, fun ra hra => ?_⟩
    have fra : H ra = none := s1.free hra
    have s2 : Same H (upd H1 ra (.lst [])) := s1.tr (Same.rfl'.new hra)
    refine ⟨_, rfl, l, rfl, ⟨_, SqL.of (s2 _ _ hl)⟩, for_list (K := K) (a := l) (xs := bs.map V.int) (fun i σ H2 => (Same H H2 ∧ LI H2 ra (bs.take i) ∧ ∀ j, j < i → ¬ Clo ps bs j) ∧ ∃ u v z, σ = [some (.ref p), some (.ref l), some (.ref ra), u, v, z])
      ⟨⟨s2, upd_same, fun j hj => absurd hj (by (first | lia | omega))⟩, _, _, _, rfl⟩ (fun i σ H2 _ ⟨⟨e, _⟩, _⟩ => SqL.of (e _ _ hl)) ?_ ?_⟩
    · rintro i x σ H2 hi ⟨⟨s3, hra2, hno⟩, u, v, z, rfl⟩
      rw [List.getElem?_map] at hi
      obtain ⟨b, hbi, rfl⟩ := Option.map_eq_some_iff.mp hi
      have hil := (List.getElem?_eq_some_iff.mp hbi).1
      obtain ⟨b0, b1'⟩ := hbs b (List.mem_of_getElem? hbi)
      obtain ⟨k, rfl⟩ : ∃ k : Nat, b = (k : Int) := ⟨b.toNat, by (first | lia | omega)⟩
      obtain ⟨xv, hxv⟩ : ∃ xv, ys[k]? = some xv := ⟨_, List.getElem?_eq_getElem (by (first | lia | omega))⟩
      obtain ⟨pr, hpr, a, rfl, hat⟩ := hp.get hxv
      have eeb : eb ps (k : Int) = pr := getD_at hpr
      have at2 := s3 _ _ hat
      have hokp := hok pr (List.mem_of_getElem? hpr)
      unfold okPair at hokp
      simp only [Bool.and_eq_true, decide_eq_true_eq] at hokp
      have hbt : ∀ b ∈ bs.take i, 0 ≤ b ∧ b < ps.length := fun b hb => hbs b (List.mem_of_mem_take hb)
      have S : Sym (stp ps (bs.take i)) q.toNat := stp_sym hok hbt
      refine ⟨_, rfl, p, CT, dx, _, _, rfl, s3 _ _ ht, T.cl, T.nb, flds_b _ _, _, rfl, l2, _, _, _, rfl, rfl, SqL.of (s3 _ _ hl2), atI_nat hxv, ?_⟩
      refine ⟨_, rfl, _, rfl, _, rfl, a, _, _, _, rfl, rfl, SqT.of at2, atI_nat (j := 0) rfl, _, rfl, a, _, _, _, rfl, rfl, SqT.of at2, atI_nat (j := 1) rfl, p, l2, q, ys, ps, ra, bs.take i, pr.1, pr.2, rfl, ⟨⟨dx, s3 _ _ ht⟩, s3 _ _ hl2⟩, hp.same s3, hft, hra2, by rw [List.length_take]; (first | lia | omega), hbt, hokp.1, fun hn H3 s4 => ?_, fun H3 d tl s4 hd hdl hw => ?_⟩
      · refine ⟨_, rfl, _, rfl, ?_⟩
        have ra3 := s4 _ _ hra2
        refine iteF ⟨_, rfl, .inl ⟨rfl, _, SqL.of ra3⟩, _, rfl, ra, _, _, rfl, rfl, ra3, by rw [List.length_map, List.length_take]; exact small1000 (by (first | lia | omega)), ?_⟩
        refine ⟨⟨fun c o e => by rw [upd_ne (ne_of_none e fra)]; exact s4 _ _ (s3 _ _ e), ?_, fun j hj => ?_⟩, _, _, _, rfl⟩
        · rw [LI, upd_same, take_snoc' hbi, List.map_append]
          rfl
        · by_cases e : j = i
          · subst e
            rintro ⟨b, hb', hre⟩
            rw [hbi] at hb'
            cases hb'
            rw [eeb] at hre
            obtain ⟨m, hm⟩ := (re_rln S hokp.1).mp hre
            exact hn m hm
          · exact hno j (by (first | lia | omega))
      · refine ⟨_, rfl, _, rfl, ?_⟩
        refine iteT ⟨_, rfl, _, rfl, by show 1 ≤ sizeLine; decide, fun p1 hp1 => ⟨d, p1, _, _, rfl, rfl, by rw [upd_ne (ne_of_none hdl hp1)]; exact hdl, upd_same, ?_, fun p2 hp2 => ?_⟩⟩
        · rw [List.length_map, List.length_map]
          have := hw.lt
          exact Nat.le_of_lt (small1000 (by show tl.length + 1 ≤ 1000; (first | lia | omega)))
        · have s5 := (s3.tr s4).tr ((Same.rfl'.new (o := .lst [V.int (k : Int)]) hp1).tr (Same.rfl'.new (o := .lst ((tl.map (·.1)).map V.int ++ [V.int (k : Int)])) hp2))
          refine kR _ p2 (tl.map (·.1) ++ [(k : Int)]) s5 ?_ ?_ ⟨i, (k : Int), tl, hbi, by rw [eeb]; exact hw, rfl⟩ ⟨i, (k : Int), hbi, ?_⟩
          · exact ((s3.tr s4).tr (Same.rfl'.new (o := .lst [V.int (k : Int)]) hp1)).free hp2
          · rw [LI, upd_same, List.map_append]
            rfl
          · rw [eeb]
            exact (re_rln S hokp.1).mpr ⟨_, hw.rl⟩
    · rintro σ H2 ⟨⟨s3, hra2, hno⟩, u, v, z, rfl⟩
      rw [List.length_map] at hno
      refine kN (fun j hc => ?_) H2 s3
      obtain ⟨b, hb', _⟩ := id hc
      exact hno j (List.getElem?_eq_some_iff.mp hb').1 hc

inductive spOnceI  (vs : List V) (H : Hp) (Q : VK) (E : XK) : Prop
  | mk (l : Addr) (xs : List V) (nss : List (List Int)) : (vs = [.ref l]) → (H l = some (.lst xs)) → (LS H xs nss) → (nss.flatten.length ≤ 1000) → (∀ H', Same H H' → Q (.bl (once nss)) H') → spOnceI  vs H Q E
def spOnce  : Sp := fun vs H Q E => spOnceI  vs H Q E
theorem scOnce : FnScope ["lists", "met"] ["lists"] (defScope sOnce) := ⟨rfl, rfl, rfl, by decide +kernel, rfl, by decide +kernel, by decide +kernel⟩
inductive spTogetherI  (vs : List V) (H : Hp) (Q : VK) (E : XK) : Prop
  | mk (l : Addr) (xs : List V) (nss : List (List Int)) : (vs = [.ref l]) → (H l = some (.lst xs)) → (LS H xs nss) → (nss.flatten.length ≤ 1000) → (∀ (H' : Hp) (m : Addr), Same H H' → H m = none → LI H' m nss.flatten → Q (.ref m) H') → spTogetherI  vs H Q E
def spTogether  : Sp := fun vs H Q E => spTogetherI  vs H Q E
theorem scTogether : FnScope ["lists", "together", "numbers"] ["lists"] (defScope sTogether) := ⟨rfl, rfl, rfl, by decide +kernel, rfl, by decide +kernel, by decide +kernel⟩
theorem ok_together {f : Addr} {fd : FuncData} (T : Txt K mg CE CS CQ CT) (F : Fun K "put_together" "put_together" sTogether f fd) : FnOk P w K mg base CX0 1 f fd ["lists"] spTogether := by
  refine F.ok scTogether (fun vs H Q E h => ?_) (fun cdv A outer s H vs Q E hr h => ?_)
  · obtain ⟨l, xs, nss, rfl, _⟩ := h
    rfl
  · obtain ⟨l, xs, nss, rfl, hl, hx, hn, kQ⟩ := h
    refine ⟨_, pss_cons (ps_set (i := 1) scTogether.nd rfl (Or.inl rfl) (pe_lst pa_nil))
      (pss_cons (ps_for PassesOwn.never rfl (pi_list (pv 0)) (pg_name (i := 2) scTogether.nd rfl (Or.inl rfl))
        (pss_one (ps_expr (pe_bm PySem.F.plainAttrs_list PySem.F.slot_list_extend PySem.F.type_list_extend mt_extend (pv 1) (pa_cons (pv 2) pa_nil)))))
      (pss_one (ps_ret (pv 1)))), ?_⟩
    try dsimp only [cx_of, cx_nox, cx_comp]
    have hlen := hx.length
    refine ⟨by show 0 ≤ sizeLine; decide, fun m hm => ?_⟩
    have s0 : Same H (upd H m (.lst [])) := Same.rfl'.new hm
    refine ⟨_, rfl, l, rfl, ⟨_, SqL.of (s0 _ _ hl)⟩, for_list (K := K) (a := l) (xs := xs) (fun i σ H2 => Same H H2 ∧ LI H2 m ((nss.take i).flatten) ∧ ∃ u, σ = [some (.ref l), some (.ref m), u])
      ⟨s0, upd_same, _, rfl⟩ (fun i σ H2 _ ⟨e, _⟩ => SqL.of (e _ _ hl)) ?_ ?_⟩
    · rintro i x σ H2 hi ⟨s2, hm2, u, rfl⟩
      obtain ⟨ns, hns, a, rfl, ha⟩ := hx.get hi
      have ha2 : LI H2 a ns := s2 _ _ ha
      refine ⟨_, rfl, .inl ⟨rfl, _, SqL.of hm2⟩, _, rfl, m, a, _, _, rfl, rfl, hm2, ha2, ?_, ?_⟩
      · rw [List.length_map, List.length_map]
        have h1 := flat_take_le nss (i + 1)
        rw [flat_take hns, List.length_append] at h1
        exact Nat.le_of_lt (small1000 (by (first | lia | omega)))
      · refine ⟨fun b o e => ?_, ?_, _, rfl⟩
        · rw [upd_ne (ne_of_none e hm)]
          exact s2 _ _ e
        · rw [LI, upd_same, flat_take hns, List.map_append]
    · rintro σ H2 ⟨s2, hm2, u, rfl⟩
      rw [hlen, List.take_length] at hm2
      exact ⟨_, rfl, kQ H2 m s2 hm hm2⟩
theorem ok_once {f f1 : Addr} {fd fd1 : FuncData} (T : Txt K mg CE CS CQ CT) (F : Fun K "each_once" "each_once" sOnce f fd) (G1 : FnOk P w K mg base CX0 1 f1 fd1 ["lists"] spTogether) (b1 : Binds K fd1 ["lists"] []) (m1 : mg "put_together" = some (.ref f1)) (k1 : PySem.W.keepIn K (.ref f1) = true) :
    FnOk P w K mg base CX0 2 f fd ["lists"] spOnce := by
  refine F.ok scOnce (fun vs H Q E h => ?_) (fun cdv A outer s H vs Q E hr h => ?_)
  · obtain ⟨l, xs, nss, rfl, _⟩ := h
    rfl
  · obtain ⟨l, xs, nss, rfl, hl, hx, hn, kQ⟩ := h
    refine ⟨_, pss_cons (ps_set (i := 1) scOnce.nd rfl (Or.inl rfl) (pe_call G1 hr (by rfl) m1 k1 b1 .nil pass0 (pa_cons (pv 0) pa_nil)))
      (pss_one (ps_ret (pe_cmpR op_eq (pe_callB call_lenSet (by rfl) T.len PySem.boot_len (pa_cons (pe_callTy (c_set rfl) (by rfl) T.set boot_set (pa_cons (pv 1) pa_nil)) pa_nil))
        (pe_callB c_len (by rfl) T.len PySem.boot_len (pa_cons (pv 1) pa_nil)) (nomark _)))), ?_⟩
    try dsimp only [cx_of, cx_nox, cx_comp]
    refine ⟨_, rfl, l, xs, nss, rfl, hl, hx, hn, fun H2 m s2 _ hm2 => ?_⟩
    refine ⟨_, rfl, m, nss.flatten, rfl, SqL.of hm2, ?_, fun d hd => ?_⟩
    · show nss.flatten.length + 1 < 4096
      (first | lia | omega)
    · have s3 : Same H2 (upd H2 d (.set (fun k => (distinct nss.flatten).any (· == k)) (distinct nss.flatten).length)) := Same.rfl'.new hd
      have hle : (distinct nss.flatten).length ≤ nss.flatten.length := PyProof.Rows.firstMet_length_le _ _
      refine ⟨d, _, _, rfl, upd_same, by (first | lia | omega), _, rfl, m, _, rfl, .inl (SqL.of (s3 _ _ hm2)), rfl, ?_⟩
      have := kQ _ (s2.tr s3)
      unfold once at this
      have e : decide (V.int ((distinct nss.flatten).length : Int) = V.int ((nss.flatten.map V.int).length : Int)) = decide ((distinct nss.flatten).length = nss.flatten.length) := by
        rw [List.length_map]
        exact dec_nat
      rw [e]
      exact this
end
end K06
namespace K06
open PySem L2 XM
section
variable {P : Program} {w : World} {K : PySem.W.Frag} {mg : Str → Option Value} {base : Heap} {CE CS CQ CT : Addr}
/-! are_groups -/
def grpOk (q f : Int) (g : List Int) : Bool := !decide ((g.length : Int) < f) && risesB g q
def groupsOk (nss : List (List Int)) (q f : Int) : Bool := nss.all (grpOk q f) && (once nss && rising (nss.map (·.headD 0)))
inductive spGroupsI  (vs : List V) (H : Hp) (Q : VK) (E : XK) : Prop
  | mk (l : Addr) (xs : List V) (nss : List (List Int)) (q f : Int) : (vs = [.ref l, .int q, .int f]) → (H l = some (.lst xs)) → (LS H xs nss) → (1 ≤ f) → (nss.flatten.length ≤ 1000) → (nss.length ≤ 1000) → (∀ H', Same H H' → Q (.bl (groupsOk nss q f)) H') → spGroupsI  vs H Q E
def spGroups  : Sp := fun vs H Q E => spGroupsI  vs H Q E
theorem scGroups : FnScope ["groups", "quarters", "fewest", "group"] ["groups", "quarters", "fewest"] (defScope sGroups) := ⟨rfl, rfl, rfl, by decide +kernel, rfl, by decide +kernel, by decide +kernel⟩
theorem len_le_flat {nss : List (List Int)} {i : Nat} {ns : List Int} (h : nss[i]? = some ns) : ns.length ≤ nss.flatten.length := by
  have := flat_take_le nss (i + 1)
  rw [flat_take h, List.length_append] at this
  (first | lia | omega)
theorem ok_groups {f f1 f2 f3 : Addr} {fd fd1 fd2 fd3 : FuncData} (T : Txt K mg CE CS CQ CT) (F : Fun K "are_groups" "are_groups" sGroups f fd)
    (G1 : FnOk P w K mg base CX0 2 f1 fd1 ["numbers", "count"] spRisesB) (b1 : Binds K fd1 ["numbers", "count"] []) (m1 : mg "rises_below" = some (.ref f1)) (k1 : PySem.W.keepIn K (.ref f1) = true)
    (G2 : FnOk P w K mg base CX0 2 f2 fd2 ["lists"] spOnce) (b2 : Binds K fd2 ["lists"] []) (m2 : mg "each_once" = some (.ref f2)) (k2 : PySem.W.keepIn K (.ref f2) = true)
    (G3 : FnOk P w K mg base CX0 1 f3 fd3 ["numbers"] spRises) (b3 : Binds K fd3 ["numbers"] []) (m3 : mg "rises" = some (.ref f3)) (k3 : PySem.W.keepIn K (.ref f3) = true) :
    FnOk P w K mg base CX0 3 f fd ["groups", "quarters", "fewest"] spGroups := by
  refine F.ok scGroups (fun vs H Q E h => ?_) (fun cdv A outer s H vs Q E hr h => ?_)
  · obtain ⟨l, xs, nss, q, f, rfl, _⟩ := h
    rfl
  · obtain ⟨l, xs, nss, q, f, rfl, hl, hx, hf, hn, hn2, kQ⟩ := h
    have nd2 : ((["group"] : List Str) ++ ([] : List Str)).Nodup := by decide +kernel
    have hr1 := hr.mono (show 1 ≤ 2 by (first | lia | omega))
    refine ⟨_, pss_cons (ps_for PassesOwn.never rfl (pi_list (pv 0)) (pg_name (i := 3) scGroups.nd rfl (Or.inl rfl))
        (pss_one (ps_if (pw_or (pt_cmpR op_lt (pe_callB c_len (by rfl) T.len PySem.boot_len (pa_cons (pv 3) pa_nil)) (pv 2) (nomark _))
          (pw_or1 (pt_not (pt_val (pe_call G1 hr (by rfl) m1 k1 b1 .nil pass0 (pa_cons (pv 3) (pa_cons (pv 1) pa_nil))))))).pt (pss_one (ps_ret pe_bl)) pss_nil)))
      (pss_one (ps_ret (pe_and (pe_call G2 hr (by rfl) m2 k2 b2 .nil pass0 (pa_cons (pv 0) pa_nil)) (pe_one (pe_call G3 hr1 (by rfl) m3 k3 b3 .nil pass0 (pa_cons
        (pe_comp (own := ["group"]) (caps := []) (cs := []) (sc := defScope sGroups) ⟨rfl, rfl, by decide +kernel, by decide +kernel, by decide +kernel, by decide +kernel, rfl⟩ rfl
        (pi_list (pv 0)) (fun _ _ _ _ _ => pg_name (i := 0) nd2 rfl (Or.inl rfl) (.inr rfl)) (fun _ _ _ _ _ => pf_nil) (fun _ _ _ _ _ => pe_ix ix_list (pv 0) pe_int (fun _ _ => rfl))) pa_nil)))))), ?_⟩
    try dsimp only [cx_of, cx_nox, cx_comp]
    have hlen := hx.length
    refine ⟨_, rfl, l, rfl, ⟨_, SqL.of hl⟩, for_list (K := K) (a := l) (xs := xs) (fun i σ H2 => Same H H2 ∧ (nss.take i).all (grpOk q f) = true ∧ ∃ u, σ = [some (.ref l), some (.int q), some (.int f), u])
      ⟨Same.rfl', by simp, _, rfl⟩ (fun i σ H2 _ ⟨e, _⟩ => SqL.of (e _ _ hl)) ?_ ?_⟩
    · rintro i x σ H2 hi ⟨s2, ha, u, rfl⟩
      obtain ⟨ns, hns, a, rfl, hat⟩ := hx.get hi
      have ha2 : LI H2 a ns := s2 _ _ hat
      have no : grpOk q f ns = false → ∀ H3, Same H H3 → Q (.bl false) H3 := fun hg H3 s3 => by
        have := kQ H3 s3
        unfold groupsOk at this
        rw [all_no hns hg] at this
        exact this
      refine ⟨_, rfl, a, _, rfl, .inl (SqL.of ha2), _, rfl, _, _, rfl, rfl, _, rfl, ?_⟩
      rw [List.length_map]
      by_cases h1 : (ns.length : Int) < f
      · rw [decide_eq_true h1]
        refine iteT (iteT (no ?_ _ s2))
        unfold grpOk
        rw [decide_eq_true h1]
        rfl
      · rw [decide_eq_false h1]
        refine iteF ⟨_, rfl, _, rfl, a, ns, q, rfl, ha2, Nat.le_trans (len_le_flat hns) hn, fun H3 s3 => ?_⟩
        refine ⟨_, rfl, ?_⟩
        have eg : grpOk q f ns = risesB ns q := by
          unfold grpOk
          rw [decide_eq_false h1]
          rfl
        cases hb : risesB ns q with
        | false => exact iteT (no (eg.trans hb) _ (s2.tr s3))
        | true =>
          refine iteF ⟨s2.tr s3, ?_, _, rfl⟩
          rw [take_snoc' hns, List.all_append, ha]
          simp [eg.trans hb]
    · rintro σ H2 ⟨s2, ha, u, rfl⟩
      rw [hlen, List.take_length] at ha
      have hl2 := s2 _ _ hl
      refine ⟨_, rfl, l, xs, nss, rfl, hl2, hx.same s2, hn, fun H3 s3 => ⟨_, rfl, ?_⟩⟩
      have e0 : groupsOk nss q f = (once nss && rising (nss.map (·.headD 0))) := by unfold groupsOk; rw [ha]; rfl
      cases ho : once nss with
      | false =>
        refine iteF ?_
        have := kQ H3 (s2.tr s3)
        rw [e0, ho] at this
        exact this
      | true =>
        have q3 := s3 _ _ hl2
        refine iteT ⟨_, rfl, l, rfl, ⟨_, SqL.of q3⟩, fun D hD => comp_ext0 (n := nss.length) hD (fun i => (nss.take i).map fun g => V.int (g.headD 0)) rfl (fun i hi => ?_) (fun i H4 hi sm hD4 => ?_) (fun H4 sm hD4 => ?_)⟩
        · rw [List.length_map, List.length_take]
          exact small1000 (by (first | lia | omega))
        · obtain ⟨x, hxi⟩ : ∃ x, xs[i]? = some x := ⟨_, List.getElem?_eq_getElem (by (first | lia | omega))⟩
          obtain ⟨ns, hns, a, rfl, hat⟩ := hx.get hxi
          have q4 := sm _ _ q3
          refine ⟨⟨_, _, SqL.of q4, hxi⟩, fun K1 k1 x H' y => ?_⟩
          obtain ⟨rfl, e⟩ := y
          have ex := e _ (SqL.of q4)
          rw [hxi] at ex
          cases ex
          have hg : grpOk q f ns = true := List.all_eq_true.mp ha ns (List.mem_of_getElem? hns)
          have hne : ns ≠ [] := fun z => by
            subst z
            unfold grpOk at hg
            rw [decide_eq_true (show ((([] : List Int).length : Nat) : Int) < f by show (0 : Int) < f; (first | lia | omega))] at hg
            cases hg
          have at4 : LI H' a ns := sm _ _ (s3 _ _ (s2 _ _ hat))
          refine ⟨rfl, ⟨_, rfl, a, _, _, V.int (ns.headD 0), rfl, rfl, SqL.of at4, atI_nat (j := 0) ?_, k1 _ _ Same.rfl' ?_⟩⟩
          · cases ns with
            | nil => exact absurd rfl hne
            | cons n r => rfl
          · rw [take_snoc hns]
        · have q4 := sm _ _ q3
          have hD4' : LI H4 D (nss.map (·.headD 0)) := by
            rw [LI, hD4, List.take_length, List.map_map]
            rfl
          refine ⟨⟨_, SqL.of q4, by rw [hlen]; exact Nat.le_refl _⟩, D, _, rfl, hD4', by rw [List.length_map]; exact hn2, fun H5 s5 => ?_⟩
          have := kQ H5 (((s2.tr s3).tr (sm)).tr s5)
          rw [e0, ho, Bool.true_and] at this
          exact this
/-! is_parting -/
def lens (nss : List (List Int)) : List Int := nss.map fun g => (g.length : Int)
def isPart (nss : List (List Int)) (q : Int) : Bool := groupsOk nss q 1 && decide ((lens nss).sum = q)
inductive spIsPartI (CT : Addr) (vs : List V) (H : Hp) (Q : VK) (E : XK) : Prop
  | mk (p l2 : Addr) (q : Int) (ys : List V) (l : Addr) (xs : List V) (nss : List (List Int)) : (vs = [.ref p, .ref l]) → (TownAt CT H p l2 q ys) → (H l = some (.lst xs)) → (LS H xs nss) → (nss.flatten.length ≤ 1000) → (nss.length ≤ 1000) → (∀ H', Same H H' → Q (.bl (isPart nss q)) H') → spIsPartI CT vs H Q E
def spIsPart (CT : Addr) : Sp := fun vs H Q E => spIsPartI CT vs H Q E
theorem scIsPart : FnScope ["town", "parting"] ["town", "parting"] (defScope sIsPart) := ⟨rfl, rfl, rfl, by decide +kernel, rfl, by decide +kernel, by decide +kernel⟩
theorem lens_sum : ∀ nss : List (List Int), (lens nss).sum = (nss.flatten.length : Int)
  | [] => rfl
  | g :: r => by
    have := lens_sum r
    unfold lens at this ⊢
    rw [List.map_cons, List.sum_cons, this, List.flatten_cons, List.length_append]
    (first | lia | omega)
theorem ok_isPart {f f1 : Addr} {fd fd1 : FuncData} (T : Txt K mg CE CS CQ CT) (F : Fun K "is_parting" "is_parting" sIsPart f fd)
    (G1 : FnOk P w K mg base CX0 3 f1 fd1 ["groups", "quarters", "fewest"] spGroups) (b1 : Binds K fd1 ["groups", "quarters", "fewest"] []) (m1 : mg "are_groups" = some (.ref f1)) (k1 : PySem.W.keepIn K (.ref f1) = true) :
    FnOk P w K mg base CX0 4 f fd ["town", "parting"] (spIsPart CT) := by
  refine F.ok scIsPart (fun vs H Q E h => ?_) (fun cdv A outer s H vs Q E hr h => ?_)
  · obtain ⟨p, l2, q, ys, l, xs, nss, rfl, _⟩ := h
    rfl
  · obtain ⟨p, l2, q, ys, l, xs, nss, rfl, ⟨⟨dx, ht⟩, hl2⟩, hl, hx, hn, hn2, kQ⟩ := h
    have nd2 : ((["part"] : List Str) ++ ([] : List Str)).Nodup := by decide +kernel
    refine ⟨_, pss_one (ps_ret (pe_and (pe_call G1 hr (by rfl) m1 k1 b1 .nil pass0 (pa_cons (pv 1) (pa_cons (pe_fld (pv 0) rfl) (pa_cons pe_int pa_nil))))
      (pe_one (pe_cmpR op_eq (pe_callB (call_sumI rfl) (by rfl) T.sum boot_sum (pa_cons
        (pe_comp (own := ["part"]) (caps := []) (cs := []) (sc := defScope sIsPart) ⟨rfl, rfl, by decide +kernel, by decide +kernel, by decide +kernel, by decide +kernel, rfl⟩ rfl
        (pi_list (pv 1)) (fun _ _ _ _ _ => pg_name (i := 0) nd2 rfl (Or.inl rfl) (.inr rfl)) (fun _ _ _ _ _ => pf_nil) (fun _ _ _ _ _ => pe_callB c_len (by rfl) T.len PySem.boot_len (pa_cons (pv 0) pa_nil))) pa_nil))
        (pe_fld (pv 0) rfl) (nomark _))))), ?_⟩
    try dsimp only [cx_of, cx_nox, cx_comp]
    have hlen := hx.length
    refine ⟨_, rfl, _, rfl, p, CT, dx, _, _, rfl, ht, T.cl, T.nq, flds_q _ _, l, xs, nss, q, 1, rfl, hl, hx, by (first | lia | omega), hn, hn2, fun H1 s1 => ⟨_, rfl, ?_⟩⟩
    have e0 : isPart nss q = (groupsOk nss q 1 && decide ((lens nss).sum = q)) := rfl
    cases hg : groupsOk nss q 1 with
    | false =>
      refine iteF ?_
      have := kQ H1 s1
      rw [e0, hg] at this
      exact this
    | true =>
      have q1 := s1 _ _ hl
      refine iteT ⟨_, rfl, l, rfl, ⟨_, SqL.of q1⟩, fun D hD => comp_ext0 (n := nss.length) hD (fun i => (nss.take i).map fun g => V.int (g.length : Int)) rfl (fun i hi => ?_) (fun i H4 hi sm hD4 => ?_) (fun H4 sm hD4 => ?_)⟩
      · rw [List.length_map, List.length_take]
        exact small1000 (by (first | lia | omega))
      · obtain ⟨x, hxi⟩ : ∃ x, xs[i]? = some x := ⟨_, List.getElem?_eq_getElem (by (first | lia | omega))⟩
        obtain ⟨ns, hns, a, rfl, hat⟩ := hx.get hxi
        have q4 := sm _ _ q1
        refine ⟨⟨_, _, SqL.of q4, hxi⟩, fun K1 k1 x H' y => ?_⟩
        obtain ⟨rfl, e⟩ := y
        have ex := e _ (SqL.of q4)
        rw [hxi] at ex
        cases ex
        have at4 : LI H' a ns := sm _ _ (s1 _ _ hat)
        refine ⟨rfl, ⟨_, rfl, a, _, rfl, .inl (SqL.of at4), k1 _ _ Same.rfl' ?_⟩⟩
        rw [take_snoc hns, List.length_map]
      · have q4 := sm _ _ q1
        have hD4' : LI H4 D (lens nss) := by
          rw [LI, hD4, List.take_length]
          unfold lens
          rw [List.map_map]
          rfl
        have bnd : ∀ j, 0 ≤ ((lens nss).take j).sum ∧ ((lens nss).take j).sum ≤ 1000 := fun j => by
          have e : (lens nss).take j = lens (nss.take j) := by unfold lens; rw [List.map_take]
          rw [e, lens_sum]
          have := flat_take_le nss j
          (first | lia | omega)
        refine ⟨⟨_, SqL.of q4, by rw [hlen]; exact Nat.le_refl _⟩, D, _, rfl, SqL.of hD4', fun j _ => ⟨by have := (bnd j).1; (first | lia | omega), by have := (bnd j).2; (first | lia | omega)⟩, fun n hn3 => ?_, ?_⟩
        · unfold lens at hn3
          obtain ⟨g, hg2, rfl⟩ := List.mem_map.mp hn3
          obtain ⟨i, hi, e⟩ := List.mem_iff_getElem.mp hg2
          have := len_le_flat (show nss[i]? = some g by rw [List.getElem?_eq_getElem hi, e])
          exact ⟨by (first | lia | omega), by (first | lia | omega)⟩
        · refine ⟨_, rfl, p, CT, dx, _, _, rfl, sm _ _ (s1 _ _ ht), T.cl, T.nq, flds_q _ _, rfl, ?_⟩
          have := kQ H4 (s1.tr sm)
          rw [e0, hg, Bool.true_and] at this
          rw [dec_int]
          exact this
/-! part_places -/
inductive spPlacesI  (vs : List V) (H : Hp) (Q : VK) (E : XK) : Prop
  | mk (l : Addr) (xs : List V) (nss : List (List Int)) : (vs = [.ref l]) → (H l = some (.lst xs)) → (LS H xs nss) → (nss.flatten.Nodup) → (nss.flatten.length ≤ 1000) → (∀ (H' : Hp) (d : Addr) (kvs : List (Key × V)), Same H H' → H' d = some (.dK kvs) → (∀ (i : Nat) g, nss[i]? = some g → ∀ x ∈ g, valV kvs (Sum.inl x) = some (.int i)) → Q (.ref d) H') → spPlacesI  vs H Q E
def spPlaces  : Sp := fun vs H Q E => spPlacesI  vs H Q E
theorem scPlaces : FnScope ["parting", "places", "place", "part", "quarter"] ["parting"] (defScope sPlaces) := ⟨rfl, rfl, rfl, by decide +kernel, rfl, by decide +kernel, by decide +kernel⟩
theorem ok_places {f : Addr} {fd : FuncData} (T : Txt K mg CE CS CQ CT) (F : Fun K "part_places" "part_places" sPlaces f fd) : FnOk P w K mg base CX0 1 f fd ["parting"] spPlaces := by
  refine F.ok scPlaces (fun vs H Q E h => ?_) (fun cdv A outer s H vs Q E hr h => ?_)
  · obtain ⟨l, xs, nss, rfl, _⟩ := h
    rfl
  · obtain ⟨l, xs, nss, rfl, hl, hx, hnd, hn, kQ⟩ := h
    have hu := hu_of hr
    refine ⟨_, pss_cons (ps_set (i := 1) scPlaces.nd rfl (Or.inl rfl) pe_dnewK)
      (pss_cons (ps_for PassesOwn.never rfl (pi_enum (by rfl) T.enum (pa_cons (pv 0) pa_nil)) (pg_tup (n := 2) rfl (pgs_cons (pg_name (i := 2) scPlaces.nd rfl (Or.inl rfl)) (pgs_cons (pg_name (i := 3) scPlaces.nd rfl (Or.inl rfl)) pgs_nil)))
        (pss_one (ps_for PassesOwn.never rfl (pi_list (pv 3)) (pg_name (i := 4) scPlaces.nd rfl (Or.inl rfl)) (pss_one (ps_dput hu (pv 1) (pv 4) (pv 2) rfl)))))
      (pss_one (ps_ret (pv 1)))), ?_⟩
    try dsimp only [cx_of, cx_nox, cx_comp]
    have hlen := hx.length
    intro d hd
    have s0 : Same H (upd H d (.dK [])) := Same.rfl'.new hd
    refine ⟨_, rfl, l, _, rfl, SqL.of (s0 _ _ hl), for_enum (K := K) (a := l) (xs := xs) (fun i σ H2 => Same H H2 ∧ (∃ kvs, H2 d = some (.dK kvs) ∧ kvs.length ≤ (nss.take i).flatten.length ∧
        ∀ (i' : Nat) g, i' < i → nss[i']? = some g → ∀ x ∈ g, valV kvs (Sum.inl x) = some (.int i')) ∧ ∃ u v z, σ = [some (.ref l), some (.ref d), u, v, z])
      ⟨s0, ⟨[], upd_same, by simp, fun i' g z => absurd z (by (first | lia | omega))⟩, _, _, _, rfl⟩ (fun i σ H2 _ ⟨e, _⟩ => SqL.of (e _ _ hl)) ?_ ?_⟩
    · rintro i x σ H2 t hi ⟨s2, ⟨kvs, hd2, hk, hv⟩, u, v, z, rfl⟩ ht
      obtain ⟨g, hg, a, rfl, hat⟩ := hx.get hi
      have s3 : Same H2 (upd H2 t (.tup [.int i, .ref a])) := Same.rfl'.new ht
      refine ⟨t, _, rfl, SqT.of upd_same, rfl, _, _, rfl, _, _, rfl, rfl, ?_⟩
      refine ⟨_, rfl, a, rfl, ⟨_, SqL.of (s3 _ _ (s2 _ _ hat))⟩, for_list (K := K) (a := a) (xs := g.map V.int) (fun j σ H3 => Same H H3 ∧ (∃ kvs, H3 d = some (.dK kvs) ∧ kvs.length ≤ (nss.take i).flatten.length + j ∧
        (∀ (i' : Nat) g', i' < i → nss[i']? = some g' → ∀ x ∈ g', valV kvs (Sum.inl x) = some (.int i')) ∧ ∀ x ∈ g.take j, valV kvs (Sum.inl x) = some (.int i)) ∧ ∃ z, σ = [some (.ref l), some (.ref d), some (.int i), some (.ref a), z])
        ⟨s2.tr s3, ⟨kvs, s3 _ _ hd2, by (first | lia | omega), hv, fun x z => by simp at z⟩, _, rfl⟩ (fun j σ H3 _ ⟨e, _⟩ => SqL.of (e _ _ hat)) ?_ ?_⟩
      · rintro j y σ H3 hj ⟨s4, ⟨kvs, hd3, hk3, hv3, hw3⟩, z, rfl⟩
        rw [List.getElem?_map] at hj
        obtain ⟨n, hnj, rfl⟩ := Option.map_eq_some_iff.mp hj
        have hjl : j < g.length := (List.getElem?_eq_some_iff.mp hnj).1
        have hgl : (nss.take i).flatten.length + g.length ≤ 1000 := by
          have := flat_take_le nss (i + 1)
          rw [flat_take hg, List.length_append] at this
          (first | lia | omega)
        refine ⟨_, rfl, _, rfl, _, rfl, d, _, rfl, DPut.k (k := Sum.inl n) hd3 (small1000 (by (first | lia | omega))), ?_⟩
        refine ⟨fun b o e => by rw [upd_ne (ne_of_none e hd)]; exact s4 _ _ e, ⟨_, upd_same, ?_, fun i' g' hlt hg' x hx' => ?_, fun x hx' => ?_⟩, _, rfl⟩
        · have := length_putK kvs (Sum.inl n) (.int i)
          (first | lia | omega)
        · rw [valV_put, if_neg fun e => ?_]
          · exact hv3 i' g' hlt hg' x hx'
          · have e' : x = n := Sum.inl.inj e
            subst e'
            exact nodup_apart hnd hg hg' (List.mem_of_getElem? hnj) hx' hlt
        · rw [take_snoc' hnj] at hx'
          rw [valV_put]
          by_cases e : (Sum.inl x : Key) = Sum.inl n
          · rw [if_pos e]
          · rw [if_neg e]
            rcases List.mem_append.mp hx' with h | h
            · exact hw3 x h
            · exact absurd (congrArg Sum.inl (List.mem_singleton.mp h)) e
      · rintro σ H3 ⟨s4, ⟨kvs, hd3, hk3, hv3, hw3⟩, z, rfl⟩
        rw [List.length_map] at hk3 hw3
        refine ⟨s4, ⟨kvs, hd3, ?_, fun i' g' hlt hg' x hx' => ?_⟩, _, _, _, rfl⟩
        · rw [flat_take hg, List.length_append]
          exact hk3
        · by_cases e : i' = i
          · subst e
            rw [hg] at hg'
            cases hg'
            exact hw3 x (by rw [List.take_length]; exact hx')
          · exact hv3 i' g' (by (first | lia | omega)) hg' x hx'
    · rintro σ H2 ⟨s2, ⟨kvs, hd2, hk, hv⟩, u, v, z, rfl⟩
      refine ⟨_, rfl, kQ H2 d kvs s2 hd2 fun i g hg => hv i g ?_ hg⟩
      have := (List.getElem?_eq_some_iff.mp hg).1
      (first | lia | omega)

/-! check_some_quarters -/
def someQ (ns : List Int) (q : Int) : Bool := !decide (ns = []) && risesB ns q
inductive spCheckSQI (CQ : Addr) (vs : List V) (H : Hp) (Q : VK) (E : XK) : Prop
  | mk (l : Addr) (ns : List Int) (q : Int) : (vs = [.ref l, .int q]) → (LI H l ns) → (ns.length ≤ 1000) → ((someQ ns q = true → ∀ H', Same H H' → Q .non H')) → ((someQ ns q = false → ∀ H', Same H H' → E (.ref CQ) none H')) → spCheckSQI CQ vs H Q E
def spCheckSQ (CQ : Addr) : Sp := fun vs H Q E => spCheckSQI CQ vs H Q E
theorem scCheckSQ : FnScope ["some", "quarters"] ["some", "quarters"] (defScope sCheckSQ) := ⟨rfl, rfl, rfl, by decide +kernel, rfl, by decide +kernel, by decide +kernel⟩
theorem ok_checkSQ {f f1 : Addr} {fd fd1 : FuncData} (T : Txt K mg CE CS CQ CT) (F : Fun K "check_some_quarters" "check_some_quarters" sCheckSQ f fd)
    (G1 : FnOk P w K mg base CX0 2 f1 fd1 ["numbers", "count"] spRisesB) (b1 : Binds K fd1 ["numbers", "count"] []) (m1 : mg "rises_below" = some (.ref f1)) (k1 : PySem.W.keepIn K (.ref f1) = true) :
    FnOk P w K mg base (CXE P w) 3 f fd ["some", "quarters"] (spCheckSQ CQ) := by
  refine F.okE scCheckSQ (fun vs H Q E h => ?_) (fun cdv A outer s H vs Q E hr h => ?_)
  · obtain ⟨l, ns, q, rfl, _⟩ := h
    rfl
  · obtain ⟨l, ns, q, rfl, hl, hn, kQ, kE⟩ := h
    have lets := lets_cx (P := P) (w := w) (K := K) (mg := mg) (base := base) (N := ["some", "quarters"]) (qual := "check_some_quarters") (scope := defScope sCheckSQ) (f := f) (cd := cdv) (A := A) (outer := outer) (s := s) (H := H) (E := E)
    refine ⟨_, pss_one (ps_if (pw_or (pt_cmpR op_eq (pe_callB c_len (by rfl) T.len PySem.boot_len (pa_cons (pv 0) pa_nil)) pe_int (nomark _))
      (pw_or1 (pt_not (pt_val (pe_call G1 hr (by rfl) m1 k1 b1 .nil pass0 (pa_cons (pv 0) (pa_cons (pv 1) pa_nil))))))).pt (pss_one (ps_raise lets T.errQ hr.hd (by rfl) T.mgBQ (pa_cons pe_str pa_nil))) pss_nil), ?_⟩
    try dsimp only [cx_of, cx_nox, cx_comp]
    refine ⟨_, rfl, l, _, rfl, .inl (SqL.of hl), rfl, _, rfl, ?_⟩
    rw [List.length_map, show decide (V.int (ns.length : Int) = V.int 0) = decide (ns = []) from decide_eq_decide.mpr ⟨fun e => by
      cases ns with
      | nil => rfl
      | cons n r => injection e with e; simp at e; (first | lia | omega), fun e => by rw [e]; rfl⟩]
    by_cases h1 : ns = []
    · rw [decide_eq_true h1]
      refine iteT (iteT ⟨by show 1 ≤ sizeLine; decide, kE ?_ _ Same.rfl'⟩)
      unfold someQ
      rw [decide_eq_true h1]
      rfl
    · rw [decide_eq_false h1]
      have e0 : someQ ns q = risesB ns q := by unfold someQ; rw [decide_eq_false h1]; rfl
      refine iteF ⟨_, rfl, _, rfl, l, ns, q, rfl, hl, hn, fun H1 s1 => ⟨_, rfl, ?_⟩⟩
      cases hb : risesB ns q with
      | false => exact iteT ⟨by show 1 ≤ sizeLine; decide, kE (e0.trans hb) _ s1⟩
      | true => exact iteF (kQ (e0.trans hb) _ s1)
end
/-- what a parting is -/
structure PartOk (nss : List (List Int)) (q : Int) : Prop where
  nd : nss.flatten.Nodup
  rng : ∀ x ∈ nss.flatten, 0 ≤ x ∧ x < q
  has : ∀ x, 0 ≤ x → x < q → x ∈ nss.flatten
theorem groups_rng {nss : List (List Int)} {q f : Int} (h : nss.all (grpOk q f) = true) : ∀ x ∈ nss.flatten, 0 ≤ x ∧ x < q := fun x hx => by
  obtain ⟨g, hg, hxg⟩ := List.mem_flatten.mp hx
  have := List.all_eq_true.mp h g hg
  unfold grpOk risesB at this
  simp only [Bool.and_eq_true] at this
  exact inR_iff.mp (List.all_eq_true.mp this.2.2 x hxg)
theorem part_ok {nss : List (List Int)} {q : Int} (h : isPart nss q = true) : PartOk nss q := by
  unfold isPart groupsOk at h
  simp only [Bool.and_eq_true, decide_eq_true_eq] at h
  obtain ⟨⟨h1, h2, _⟩, h3⟩ := h
  rw [lens_sum] at h3
  have hr := groups_rng h1
  exact ⟨(once_iff _).mp h2, hr, fills ((once_iff _).mp h2) hr h3⟩
/-- the part of a quarter -/
def pl (nss : List (List Int)) (x : Int) : Nat := nss.findIdx fun g => g.contains x
theorem pl_at {nss : List (List Int)} {x : Int} (h : x ∈ nss.flatten) : ∃ g, nss[pl nss x]? = some g ∧ x ∈ g := by
  obtain ⟨g, hg, hx⟩ := List.mem_flatten.mp h
  have hlt : pl nss x < nss.length := List.findIdx_lt_length_of_exists ⟨g, hg, by simpa using hx⟩
  refine ⟨nss[pl nss x], List.getElem?_eq_getElem hlt, ?_⟩
  have h : (nss[pl nss x]).contains x = true := List.findIdx_getElem (w := hlt)
  simpa using h
def betwP (nss : List (List Int)) (ps : PP) (k : Nat) : Bool := !decide (pl nss (ps.getD k (0, 0)).1 = pl nss (ps.getD k (0, 0)).2)
def withP (ns : List Int) (ps : PP) (k : Nat) : Bool := ns.contains (ps.getD k (0, 0)).1 && ns.contains (ps.getD k (0, 0)).2
theorem grp1 {q : Int} {g : List Int} : grpOk q 1 g = true ↔ risesB g q = true ∧ g ≠ [] := by
  unfold grpOk
  rw [Bool.and_eq_true]
  have : (!decide ((g.length : Int) < 1)) = true ↔ g ≠ [] := by
    cases g with
    | nil => simp
    | cons a r => simp; (first | lia | omega)
  rw [this]
  exact and_comm
def inOne (nss : List (List Int)) (p : Int × Int) : Bool := nss.any fun g => g.contains p.1 && g.contains p.2
theorem part_one {nss : List (List Int)} {q : Int} {p : Int × Int} (ok : PartOk nss q) (hp : okPair q p = true) : (!decide (pl nss p.1 = pl nss p.2)) = !inOne nss p := by
  unfold okPair at hp
  simp only [Bool.and_eq_true, decide_eq_true_eq] at hp
  obtain ⟨g1, h1, m1⟩ := pl_at (ok.has p.1 hp.1.1 hp.1.2)
  obtain ⟨g2, h2, m2⟩ := pl_at (ok.has p.2 hp.2.1.1 hp.2.1.2)
  have uniq : ∀ {x : Int} {i j : Nat} {g g' : List Int}, nss[i]? = some g → nss[j]? = some g' → x ∈ g → x ∈ g' → i = j := fun {x i j g g'} hi hj hx hx' => by
    rcases Nat.lt_trichotomy i j with h | h | h
    · exact (nodup_apart ok.nd hj hi hx' hx h).elim
    · exact h
    · exact (nodup_apart ok.nd hi hj hx hx' h).elim
  congr 1
  rw [Bool.eq_iff_iff, decide_eq_true_eq]
  unfold inOne
  rw [List.any_eq_true]
  constructor
  · intro e
    rw [← e, h1] at h2
    cases h2
    exact ⟨g1, List.mem_of_getElem? h1, by simp [m1, m2]⟩
  · rintro ⟨g, hg, hb⟩
    simp only [Bool.and_eq_true, List.contains_iff_mem] at hb
    obtain ⟨j, hj, e⟩ := List.mem_iff_getElem.mp hg
    have hj' : nss[j]? = some g := by rw [List.getElem?_eq_getElem hj, e]
    rw [uniq h1 hj' m1 hb.1, uniq h2 hj' m2 hb.2]
theorem betw_eq {nss : List (List Int)} {q : Int} {ps : PP} (ok : PartOk nss q) (hf : ∀ p ∈ ps, okPair q p = true) : filtR ps.length (betwP nss ps) = filtR ps.length (fun k => !inOne nss (ps.getD k (0, 0))) := by
  refine filtR_congr fun k hk => ?_
  unfold betwP
  have e : ps[k]? = some ps[k] := List.getElem?_eq_getElem hk
  rw [getD_at e]
  exact part_one ok (hf _ (List.getElem_mem hk))
section
variable {P : Program} {w : World} {K : PySem.W.Frag} {mg : Str → Option Value} {base : Heap} {CE CS CQ CT : Addr}
/-! bridges_between -/
inductive spBetwI (CT CE : Addr) (vs : List V) (H : Hp) (Q : VK) (E : XK) : Prop
  | mk (p l2 : Addr) (q : Int) (ys : List V) (ps : PP) (l : Addr) (xs : List V) (nss : List (List Int)) : (vs = [.ref p, .ref l]) → (TownAt CT H p l2 q ys) → (PV H ys ps) → (fits q ps = true) → (H l = some (.lst xs)) → (LS H xs nss) → (nss.flatten.length ≤ 1000) → (nss.length ≤ 1000) → ((isPart nss q = true → ∀ (H' : Hp) (d : Addr), Same H H' → H d = none → LI H' d (filtR ps.length (betwP nss ps)) → Q (.ref d) H')) → ((isPart nss q = false → ∀ H', Same H H' → E (.ref CE) none H')) → spBetwI CT CE vs H Q E
def spBetw (CT CE : Addr) : Sp := fun vs H Q E => spBetwI CT CE vs H Q E
theorem scBetw : FnScope ["town", "parting", "places"] ["town", "parting"] (defScope sBetw) := ⟨rfl, rfl, rfl, by decide +kernel, rfl, by decide +kernel, by decide +kernel⟩
theorem ok_betw {f f1 f2 : Addr} {fd fd1 fd2 : FuncData} (T : Txt K mg CE CS CQ CT) (F : Fun K "bridges_between" "bridges_between" sBetw f fd)
    (G1 : FnOk P w K mg base CX0 4 f1 fd1 ["town", "parting"] (spIsPart CT)) (b1 : Binds K fd1 ["town", "parting"] []) (m1 : mg "is_parting" = some (.ref f1)) (k1 : PySem.W.keepIn K (.ref f1) = true)
    (G2 : FnOk P w K mg base CX0 1 f2 fd2 ["parting"] spPlaces) (b2 : Binds K fd2 ["parting"] []) (m2 : mg "part_places" = some (.ref f2)) (k2 : PySem.W.keepIn K (.ref f2) = true) :
    FnOk P w K mg base (CXE P w) 5 f fd ["town", "parting"] (spBetw CT CE) := by
  refine F.okE scBetw (fun vs H Q E h => ?_) (fun cdv A outer s H vs Q E hr h => ?_)
  · obtain ⟨p, l2, q, ys, ps, l, xs, nss, rfl, _⟩ := h
    rfl
  · obtain ⟨p, l2, q, ys, ps, l, xs, nss, rfl, ⟨⟨dx, ht⟩, hl2⟩, hp, hft, hl, hx, hn, hn2, kQ, kE⟩ := h
    have lets := lets_cx (P := P) (w := w) (K := K) (mg := mg) (base := base) (N := ["town", "parting", "places"]) (qual := "bridges_between") (scope := defScope sBetw) (f := f) (cd := cdv) (A := A) (outer := outer) (s := s) (H := H) (E := E)
    have hu := hu_of hr
    have hr1 := hr.mono (show 1 ≤ 4 by (first | lia | omega))
    have nd2 : ((["bridge", "ends"] : List Str) ++ (["places"] : List Str)).Nodup := by decide +kernel
    refine ⟨_, pss_cons (ps_if (pt_not (pt_val (pe_call G1 hr (by rfl) m1 k1 b1 .nil pass0 (pa_cons (pv 0) (pa_cons (pv 1) pa_nil))))) (pss_one (ps_raise lets T.errP hr.hd (by rfl) T.mgBP (pa_cons pe_str pa_nil))) pss_nil)
      (pss_cons (ps_set (i := 2) scBetw.nd rfl (Or.inr rfl) (pe_call G2 hr1 (by rfl) m2 k2 b2 .nil pass0 (pa_cons (pv 1) pa_nil)))
      (pss_one (ps_ret (pe_comp (own := ["bridge", "ends"]) (caps := ["places"]) (cs := [2]) (sc := defScope sBetw) ⟨rfl, rfl, by decide +kernel, by decide +kernel, by decide +kernel, by decide +kernel, rfl⟩ rfl
        (pi_enum (by rfl) T.enum (pa_cons (pe_fld (pv 0) rfl) pa_nil)) (fun _ _ _ _ _ => pg_tup (n := 2) rfl (pgs_cons (pg_name (i := 0) nd2 rfl (Or.inl rfl) (.inr rfl)) (pgs_cons (pg_name (i := 1) nd2 rfl (Or.inl rfl) (.inr rfl)) pgs_nil)))
        (fun _ _ _ _ _ => pf_one (pt_cmpR op_ne (pe_dget hu (pv 2) (pe_ix ix_tup (pv 1) pe_int (fun _ _ => rfl)) (fun _ _ => rfl)) (pe_dget hu (pv 2) (pe_ix ix_tup (pv 1) pe_int (fun _ _ => rfl)) (fun _ _ => rfl)) (nomark _)))
        (fun _ _ _ _ _ => pv 0))))), ?_⟩
    try dsimp only [cx_of, cx_nox, cx_comp]
    have hlen := hp.length
    refine ⟨_, rfl, _, rfl, p, l2, q, ys, l, xs, nss, rfl, ⟨⟨dx, ht⟩, hl2⟩, hl, hx, hn, hn2, fun H1 s1 => ⟨_, rfl, ?_⟩⟩
    cases hb : isPart nss q with
    | false => exact iteT ⟨by show 1 ≤ sizeLine; decide, kE hb _ s1⟩
    | true =>
      have ok := part_ok hb
      obtain ⟨_, h60, hok⟩ := fits_iff hft
      refine iteF ⟨_, rfl, l, xs, nss, rfl, s1 _ _ hl, hx.same s1, ok.nd, hn, fun H2 d kvs s2 hd2 hv => ?_⟩
      have q2 := s2 _ _ (s1 _ _ hl2)
      have hv' : ∀ x, 0 ≤ x → x < q → valV kvs (Sum.inl x) = some (.int (pl nss x)) := fun x h0 h1 => by
        obtain ⟨g, hg, hxg⟩ := pl_at (ok.has x h0 h1)
        exact hv _ g hg x hxg
      refine ⟨_, rfl, p, CT, dx, _, _, rfl, s2 _ _ (s1 _ _ ht), T.cl, T.nb, flds_b _ _, l2, _, rfl, SqL.of q2, fun D hD => comp_ext (n := ps.length) hD (fun i => (filtR i (betwP nss ps)).map V.int) rfl (fun i hi => ?_) (fun i H4 hi sm hD4 => ?_) (fun H4 sm hD4 => ?_)⟩
      · rw [List.length_map]
        have := filtR_len i (betwP nss ps)
        exact small1000 (by (first | lia | omega))
      · obtain ⟨x, hxi⟩ : ∃ x, ys[i]? = some x := ⟨_, List.getElem?_eq_getElem (by (first | lia | omega))⟩
        obtain ⟨pr, hpr, a, rfl, hat⟩ := hp.get hxi
        have q4 := sm _ _ q2
        refine ⟨⟨_, _, SqL.of q4, hxi⟩, fun K1 K2 k1 k2 x H' y => ?_⟩
        obtain ⟨t, rfl, htn, e⟩ := y
        rw [e _ _ (SqL.of q4) hxi]
        have s5 : Same H4 (upd H4 t (.tup [.int i, .ref a])) := Same.rfl'.new htn
        have at5 := s5 _ _ (sm _ _ (s2 _ _ (s1 _ _ hat)))
        have d5 := s5 _ _ (sm _ _ hd2)
        have okp := hok pr (List.mem_of_getElem? hpr)
        unfold okPair at okp
        simp only [Bool.and_eq_true, decide_eq_true_eq] at okp
        have g1 : DGet (upd H4 t (.tup [.int i, .ref a])) d (.int pr.1) (some (.int (pl nss pr.1))) := by
          have := DGet.k (k := Sum.inl pr.1) d5
          rw [hv' pr.1 okp.1.1 okp.1.2] at this
          exact this
        have g2 : DGet (upd H4 t (.tup [.int i, .ref a])) d (.int pr.2) (some (.int (pl nss pr.2))) := by
          have := DGet.k (k := Sum.inl pr.2) d5
          rw [hv' pr.2 okp.2.1.1 okp.2.1.2] at this
          exact this
        refine ⟨t, _, rfl, SqT.of upd_same, rfl, _, _, rfl, _, _, rfl, rfl, rfl, ?_⟩
        refine ⟨_, rfl, _, rfl, a, _, _, _, rfl, rfl, SqT.of at5, atI_nat (j := 0) rfl, d, _, rfl, g1, _, rfl, _, rfl, a, _, _, _, rfl, rfl, SqT.of at5, atI_nat (j := 1) rfl, d, _, rfl, g2, rfl, _, rfl, ?_⟩
        have ep : betwP nss ps i = !decide (V.int (pl nss pr.1 : Int) = V.int (pl nss pr.2 : Int)) := by
          unfold betwP
          rw [getD_at hpr, dec_nat]
        rw [← ep]
        refine ite2 (fun h => ⟨_, rfl, k1 _ _ s5 ?_⟩) (fun h => k2 _ s5 ?_)
        · rw [filtR_succ, if_pos h, List.map_append]
          rfl
        · rw [filtR_succ, if_neg h, List.append_nil]
      · have q4 := sm _ _ q2
        refine ⟨⟨_, SqL.of q4, by rw [hlen]; exact Nat.le_refl _⟩, kQ hb H4 D ((s1.tr s2).tr sm) ?_ hD4⟩
        exact (s1.tr s2).free hD

/-! bridges_within -/
inductive spWithinI (CT CQ : Addr) (vs : List V) (H : Hp) (Q : VK) (E : XK) : Prop
  | mk (p l2 : Addr) (q : Int) (ys : List V) (ps : PP) (l : Addr) (ns : List Int) : (vs = [.ref p, .ref l]) → (TownAt CT H p l2 q ys) → (PV H ys ps) → (fits q ps = true) → (LI H l ns) → (ns.length ≤ 1000) → ((someQ ns q = true → ∀ (H' : Hp) (d : Addr), Same H H' → H d = none → LI H' d (filtR ps.length (withP ns ps)) → Q (.ref d) H')) → ((someQ ns q = false → ∀ H', Same H H' → E (.ref CQ) none H')) → spWithinI CT CQ vs H Q E
def spWithin (CT CQ : Addr) : Sp := fun vs H Q E => spWithinI CT CQ vs H Q E
theorem scWithin : FnScope ["town", "quarters"] ["town", "quarters"] (defScope sWithin) := ⟨rfl, rfl, rfl, by decide +kernel, rfl, by decide +kernel, by decide +kernel⟩
theorem ok_within {f f1 : Addr} {fd fd1 : FuncData} (T : Txt K mg CE CS CQ CT) (F : Fun K "bridges_within" "bridges_within" sWithin f fd)
    (G1 : FnOk P w K mg base (CXE P w) 3 f1 fd1 ["some", "quarters"] (spCheckSQ CQ)) (b1 : Binds K fd1 ["some", "quarters"] []) (m1 : mg "check_some_quarters" = some (.ref f1)) (k1 : PySem.W.keepIn K (.ref f1) = true) :
    FnOk P w K mg base (CXE P w) 4 f fd ["town", "quarters"] (spWithin CT CQ) := by
  refine F.okE scWithin (fun vs H Q E h => ?_) (fun cdv A outer s H vs Q E hr h => ?_)
  · obtain ⟨p, l2, q, ys, ps, l, ns, rfl, _⟩ := h
    rfl
  · obtain ⟨p, l2, q, ys, ps, l, ns, rfl, ⟨⟨dx, ht⟩, hl2⟩, hp, hft, hl, hn, kQ, kE⟩ := h
    have lets := lets_cx (P := P) (w := w) (K := K) (mg := mg) (base := base) (N := ["town", "quarters"]) (qual := "bridges_within") (scope := defScope sWithin) (f := f) (cd := cdv) (A := A) (outer := outer) (s := s) (H := H) (E := E)
    have nd2 : ((["bridge", "ends"] : List Str) ++ (["quarters"] : List Str)).Nodup := by decide +kernel
    refine ⟨_, pss_cons (ps_expr (pe_call G1 hr (by rfl) m1 k1 b1 .nil lets.pass (pa_cons (pv 1) (pa_cons (pe_fld (pv 0) rfl) pa_nil))))
      (pss_one (ps_ret (pe_comp (own := ["bridge", "ends"]) (caps := ["quarters"]) (cs := [1]) (sc := defScope sWithin) ⟨rfl, rfl, by decide +kernel, by decide +kernel, by decide +kernel, by decide +kernel, rfl⟩ rfl
        (pi_enum (by rfl) T.enum (pa_cons (pe_fld (pv 0) rfl) pa_nil)) (fun _ _ _ _ _ => pg_tup (n := 2) rfl (pgs_cons (pg_name (i := 0) nd2 rfl (Or.inl rfl) (.inr rfl)) (pgs_cons (pg_name (i := 1) nd2 rfl (Or.inl rfl) (.inr rfl)) pgs_nil)))
        (fun _ _ _ _ _ => pf_one (pw_and (pt_cmpR op_in_seq (pe_ix ix_tup (pv 1) pe_int (fun _ _ => rfl)) (pv 2) rfl) (pw_and1 (pt_cmpR op_in_seq (pe_ix ix_tup (pv 1) pe_int (fun _ _ => rfl)) (pv 2) rfl))).pt)
        (fun _ _ _ _ _ => pv 0)))), ?_⟩
    try dsimp only [cx_of, cx_nox, cx_comp]
    have hlen := hp.length
    refine ⟨_, rfl, _, rfl, p, CT, dx, _, _, rfl, ht, T.cl, T.nq, flds_q _ _, l, ns, q, rfl, hl, hn, fun hb H1 s1 => ?_, kE⟩
    obtain ⟨_, h60, hok⟩ := fits_iff hft
    have q2 := s1 _ _ hl2
    refine ⟨_, rfl, p, CT, dx, _, _, rfl, s1 _ _ ht, T.cl, T.nb, flds_b _ _, l2, _, rfl, SqL.of q2, fun D hD => comp_ext (n := ps.length) hD (fun i => (filtR i (withP ns ps)).map V.int) rfl (fun i hi => ?_) (fun i H4 hi sm hD4 => ?_) (fun H4 sm hD4 => ?_)⟩
    · rw [List.length_map]
      have := filtR_len i (withP ns ps)
      exact small1000 (by (first | lia | omega))
    · obtain ⟨x, hxi⟩ : ∃ x, ys[i]? = some x := ⟨_, List.getElem?_eq_getElem (by (first | lia | omega))⟩
      obtain ⟨pr, hpr, a, rfl, hat⟩ := hp.get hxi
      have q4 := sm _ _ q2
      refine ⟨⟨_, _, SqL.of q4, hxi⟩, fun K1 K2 k1 k2 x H' y => ?_⟩
      obtain ⟨t, rfl, htn, e⟩ := y
      rw [e _ _ (SqL.of q4) hxi]
      have s5 : Same H4 (upd H4 t (.tup [.int i, .ref a])) := Same.rfl'.new htn
      have at5 := s5 _ _ (sm _ _ (s1 _ _ hat))
      have l5 : LI (upd H4 t (.tup [.int i, .ref a])) l ns := s5 _ _ (sm _ _ (s1 _ _ hl))
      refine ⟨t, _, rfl, SqT.of upd_same, rfl, _, _, rfl, _, _, rfl, rfl, rfl, ?_⟩
      refine ⟨_, rfl, a, _, _, _, rfl, rfl, SqT.of at5, atI_nat (j := 0) rfl, _, rfl, l, _, rfl, .inl (SqL.of l5), rfl, flat_ints ns, _, rfl, ?_⟩
      have e1 : (if false = true then !inV (V.int pr.1) (ns.map V.int) else inV (V.int pr.1) (ns.map V.int)) = ns.contains pr.1 := by rw [if_neg Bool.false_ne_true, inV_ints]
      rw [e1]
      have ep : withP ns ps i = (ns.contains pr.1 && ns.contains pr.2) := by
        unfold withP
        rw [getD_at hpr]
      cases hc : ns.contains pr.1 with
      | false =>
        rw [hc] at ep
        refine iteF (iteF (k2 _ s5 ?_))
        rw [filtR_succ, if_neg (by rw [ep]; exact Bool.false_ne_true), List.append_nil]
      | true =>
        rw [hc, Bool.true_and] at ep
        refine iteT ⟨_, rfl, a, _, _, _, rfl, rfl, SqT.of at5, atI_nat (j := 1) rfl, _, rfl, l, _, rfl, .inl (SqL.of l5), rfl, flat_ints ns, _, rfl, ?_⟩
        have e2 : (if false = true then !inV (V.int pr.2) (ns.map V.int) else inV (V.int pr.2) (ns.map V.int)) = ns.contains pr.2 := by rw [if_neg Bool.false_ne_true, inV_ints]
        rw [e2, ← ep]
        refine ite2 (fun h => ⟨_, rfl, k1 _ _ s5 ?_⟩) (fun h => k2 _ s5 ?_)
        · rw [filtR_succ, if_pos h, List.map_append]
          rfl
        · rw [filtR_succ, if_neg h, List.append_nil]
    · have q4 := sm _ _ q2
      exact ⟨⟨_, SqL.of q4, by rw [hlen]; exact Nat.le_refl _⟩, kQ hb H4 D (s1.tr sm) (s1.free hD) hD4⟩
/-! check_quarter -/
inductive spCheckQI (CQ : Addr) (vs : List V) (H : Hp) (Q : VK) (E : XK) : Prop
  | mk (x q : Int) : (vs = [.int x, .int q]) → (((0 ≤ x ∧ x < q) → Q .non H)) → ((¬ (0 ≤ x ∧ x < q) → ∀ H', Same H H' → E (.ref CQ) none H')) → spCheckQI CQ vs H Q E
def spCheckQ (CQ : Addr) : Sp := fun vs H Q E => spCheckQI CQ vs H Q E
theorem scCheckQ : FnScope ["number", "quarters"] ["number", "quarters"] (defScope sCheckQ) := ⟨rfl, rfl, rfl, by decide +kernel, rfl, by decide +kernel, by decide +kernel⟩
theorem ok_checkQ {f f1 : Addr} {fd fd1 : FuncData} (T : Txt K mg CE CS CQ CT) (F : Fun K "check_quarter" "check_quarter" sCheckQ f fd)
    (F1 : Fun K "is_quarter" "is_quarter" sIsq f1 fd1) (b1 : Binds K fd1 ["number", "quarters"] []) (m1 : mg "is_quarter" = some (.ref f1)) :
    FnOk P w K mg base (CXE P w) 2 f fd ["number", "quarters"] (spCheckQ CQ) := by
  have G1 : FnOk P w K mg base CX0 1 f1 fd1 ["number", "quarters"] spIsq := ok_isq F1
  refine F.okE scCheckQ (fun vs H Q E h => ?_) (fun cdv A outer s H vs Q E hr h => ?_)
  · obtain ⟨x, q, rfl, _⟩ := h
    rfl
  · obtain ⟨x, q, rfl, kQ, kE⟩ := h
    have lets := lets_cx (P := P) (w := w) (K := K) (mg := mg) (base := base) (N := ["number", "quarters"]) (qual := "check_quarter") (scope := defScope sCheckQ) (f := f) (cd := cdv) (A := A) (outer := outer) (s := s) (H := H) (E := E)
    refine ⟨_, pss_one (ps_if (pt_not (pt_val (pe_call G1 hr (by rfl) m1 F1.kp b1 .nil pass0 (pa_cons (pv 0) (pa_cons (pv 1) pa_nil)))))
      (pss_one (ps_raise lets T.errQ hr.hd (by rfl) T.mgBQ (pa_cons pe_str pa_nil))) pss_nil), ?_⟩
    try dsimp only [cx_of, cx_nox, cx_comp]
    refine ⟨_, rfl, _, rfl, x, q, rfl, _, rfl, ?_⟩
    by_cases h : 0 ≤ x ∧ x < q
    · rw [decide_eq_true h.1, decide_eq_true h.2]
      exact iteF (kQ h)
    · have e : (decide (0 ≤ x) && decide (x < q)) = false := Bool.eq_false_iff.mpr fun z => h (by simpa using z)
      rw [e]
      exact iteT ⟨by show 1 ≤ sizeLine; decide, kE h _ Same.rfl'⟩

/-! way_over -/
inductive spOverI (CT CS CQ : Addr) (vs : List V) (H : Hp) (Q : VK) (E : XK) : Prop
  | mk (p l2 : Addr) (q : Int) (ys : List V) (ps : PP) (l : Addr) (bs : List Int) (x y : Int) : (vs = [.ref p, .ref l, .int x, .int y]) → (TownAt CT H p l2 q ys) → (PV H ys ps) → (fits q ps = true) → (LI H l bs) → (bs.length ≤ 100) → ((risesB bs ps.length = true → (0 ≤ x ∧ x < q) → (0 ≤ y ∧ y < q) → ((∀ m, ¬ RLn (stp ps bs) x m y) → ∀ H', Same H H' → Q .non H') ∧ (∀ (H' : Hp) (d : Addr) (tl : List (Int × Int)), Same H H' → H d = none → LI H' d (tl.map (·.1)) → Way (stp ps bs) q.toNat x y tl → Q (.ref d) H'))) → ((risesB bs ps.length = false → ∀ H', Same H H' → E (.ref CS) none H')) → ((risesB bs ps.length = true → ¬ ((0 ≤ x ∧ x < q) ∧ (0 ≤ y ∧ y < q)) → ∀ H', Same H H' → E (.ref CQ) none H')) → spOverI CT CS CQ vs H Q E
def spOver (CT CS CQ : Addr) : Sp := fun vs H Q E => spOverI CT CS CQ vs H Q E
theorem scOver : FnScope ["town", "some", "one", "other"] ["town", "some", "one", "other"] (defScope sOver) := ⟨rfl, rfl, rfl, by decide +kernel, rfl, by decide +kernel, by decide +kernel⟩
theorem ok_over {f f1 f2 f3 : Addr} {fd fd1 fd2 fd3 : FuncData} (T : Txt K mg CE CS CQ CT) (F : Fun K "way_over" "way_over" sOver f fd)
    (G1 : FnOk P w K mg base (CXE P w) 3 f1 fd1 ["some", "bridges"] (spCheckS CS)) (b1 : Binds K fd1 ["some", "bridges"] []) (m1 : mg "check_some" = some (.ref f1)) (k1 : PySem.W.keepIn K (.ref f1) = true)
    (G2 : FnOk P w K mg base (CXE P w) 2 f2 fd2 ["number", "quarters"] (spCheckQ CQ)) (b2 : Binds K fd2 ["number", "quarters"] []) (m2 : mg "check_quarter" = some (.ref f2)) (k2 : PySem.W.keepIn K (.ref f2) = true)
    (G3 : FnOk P w K mg base CX0 2 f3 fd3 ["town", "some", "one", "other"] (spBetween CT)) (b3 : Binds K fd3 ["town", "some", "one", "other"] []) (m3 : mg "way_between" = some (.ref f3)) (k3 : PySem.W.keepIn K (.ref f3) = true) :
    FnOk P w K mg base (CXE P w) 4 f fd ["town", "some", "one", "other"] (spOver CT CS CQ) := by
  refine F.okE scOver (fun vs H Q E h => ?_) (fun cdv A outer s H vs Q E hr h => ?_)
  · obtain ⟨p, l2, q, ys, ps, l, bs, x, y, rfl, _⟩ := h
    rfl
  · obtain ⟨p, l2, q, ys, ps, l, bs, x, y, rfl, ht, hp, hft, hl, hbl, kQ, kS, kE⟩ := h
    have lets := lets_cx (P := P) (w := w) (K := K) (mg := mg) (base := base) (N := ["town", "some", "one", "other"]) (qual := "way_over") (scope := defScope sOver) (f := f) (cd := cdv) (A := A) (outer := outer) (s := s) (H := H) (E := E)
    have hr2 := hr.mono (show 2 ≤ 3 by (first | lia | omega))
    refine ⟨_, pss_cons (ps_expr (pe_call G1 hr (by rfl) m1 k1 b1 .nil lets.pass (pa_cons (pv 1) (pa_cons (pe_fld (pv 0) rfl) pa_nil))))
      (pss_cons (ps_expr (pe_call G2 hr2 (by rfl) m2 k2 b2 .nil lets.pass (pa_cons (pv 2) (pa_cons (pe_fld (pv 0) rfl) pa_nil))))
      (pss_cons (ps_expr (pe_call G2 hr2 (by rfl) m2 k2 b2 .nil lets.pass (pa_cons (pv 3) (pa_cons (pe_fld (pv 0) rfl) pa_nil))))
      (pss_one (ps_ret (pe_call G3 hr2 (by rfl) m3 k3 b3 .nil pass0 (pa_cons (pv 0) (pa_cons (pv 1) (pa_cons (pv 2) (pa_cons (pv 3) pa_nil))))))))), ?_⟩
    try dsimp only [cx_of, cx_nox, cx_comp]
    have hlen := hp.length
    obtain ⟨⟨dx, htw⟩, hl2⟩ := ht
    refine ⟨_, rfl, _, rfl, p, CT, dx, _, _, rfl, htw, T.cl, T.nb, flds_b _ _, l, l2, bs, ys, rfl, hl, hl2, by (first | lia | omega), fun hb H1 s1 => ?_, fun hb => kS (by rw [← hlen]; exact hb)⟩
    rw [hlen] at hb
    have hbs : ∀ b ∈ bs, 0 ≤ b ∧ b < ps.length := (risesB_iff.mp hb).2
    refine ⟨_, rfl, _, rfl, p, CT, dx, _, _, rfl, s1 _ _ htw, T.cl, T.nq, flds_q _ _, x, q, rfl, fun hx => ?_, fun hx H2 s2 => kE hb (fun z => hx z.1) _ (s1.tr s2)⟩
    refine ⟨_, rfl, _, rfl, p, CT, dx, _, _, rfl, s1 _ _ htw, T.cl, T.nq, flds_q _ _, y, q, rfl, fun hy => ?_, fun hy H2 s2 => kE hb (fun z => hy z.2) _ (s1.tr s2)⟩
    obtain ⟨kN, kW⟩ := kQ hb hx hy
    refine ⟨_, rfl, _, rfl, _, rfl, _, rfl, p, l2, q, ys, ps, l, bs, x, y, rfl, ⟨⟨dx, s1 _ _ htw⟩, s1 _ _ hl2⟩, hp.same s1, hft, s1 _ _ hl, hbl, hbs, hx, fun hn H2 s2 => kN hn _ (s1.tr s2), fun H2 d tl s2 hd => kW H2 d tl (s1.tr s2) (s1.free hd)⟩
/-! _law_some -/
inductive spSomeI (K : PySem.W.Frag) (vs : List V) (H : Hp) (Q : VK) (E : XK) : Prop
  | mk (sc : Addr) (ns : List Int) (n : Nat) : (vs = [.ref sc, .int (n : Int)]) → (SqL K H sc (ns.map V.int)) → (n ≤ ns.length - 1) → (n ≤ 60) → (∀ (H' : Hp) (d : Addr) (bs : List Int), Same H H' → H d = none → LI H' d bs → risesB bs (n : Int) = true → bs.length ≤ 60 → Q (.ref d) H') → spSomeI K vs H Q E
def spSome (K : PySem.W.Frag) : Sp := fun vs H Q E => spSomeI K vs H Q E
theorem scSome : FnScope ["script", "many", "some", "k"] ["script", "many"] (defScope sSome) := ⟨rfl, rfl, rfl, by decide +kernel, rfl, by decide +kernel, by decide +kernel⟩
theorem ok_some {f : Addr} {fd : FuncData} (T : Txt K mg CE CS CQ CT) (F : Fun K "_law_some" "_law_some" sSome f fd) : FnOk P w K mg base CX0 1 f fd ["script", "many"] (spSome K) := by
  refine F.ok scSome (fun vs H Q E h => ?_) (fun cdv A outer s H vs Q E hr h => ?_)
  · obtain ⟨sc, ns, n, rfl, _⟩ := h
    rfl
  · obtain ⟨sc, ns, n, rfl, hS, hn1, hn2, kQ⟩ := h
    refine ⟨_, pss_cons (ps_set (i := 2) scSome.nd rfl (Or.inl rfl) (pe_lst pa_nil))
      (pss_cons (ps_for PassesOwn.never rfl (pi_range1 (by rfl) T.range (pa_cons (pv 1) pa_nil)) (pg_name (i := 3) scSome.nd rfl (Or.inl rfl))
        (pss_one (ps_if (pt_cmpR op_gt (pe_op op_mod (pe_op op_mod (pe_op op_mul (pe_op op_mod (pe_ix ix_list (pv 0) (pe_op op_add (pv 3) pe_int) (fun _ _ => rfl)) pe_int) pe_int) pe_int) pe_int) pe_int (nomark _))
          (pss_one (ps_expr (pe_bm PySem.F.plainAttrs_list PySem.F.slot_list_append PySem.F.type_list_append mt_append (pv 2) (pa_cons (pv 3) pa_nil)))) pss_nil)))
      (pss_one (ps_ret (pv 2)))), ?_⟩
    try dsimp only [cx_of, cx_nox, cx_comp]
    refine ⟨by show 0 ≤ sizeLine; decide, fun d hd => ?_⟩
    have s0 : Same H (upd H d (.lst [])) := Same.rfl'.new hd
    refine ⟨_, rfl, (n : Int), rfl, by (first | lia | omega), by (first | lia | omega), for_range (lo := 0) (n := ((n : Int)).toNat) (fun i σ H2 => (∃ p, Same H H2 ∧ LI H2 d (filtR i p)) ∧ ∃ u, σ = [some (.ref sc), some (.int (n : Int)), some (.ref d), u])
      ⟨⟨fun _ => true, s0, upd_same⟩, _, rfl⟩ ?_ ?_⟩
    · rintro i σ H2 hi ⟨⟨p, s2, hd2⟩, u, rfl⟩
      have e0 : (0 : Int) + (i : Int) = (i : Int) := by (first | lia | omega)
      rw [e0]
      have hil : i + 1 < ns.length := by (first | lia | omega)
      have hx : (ns.map V.int)[i + 1]? = some (.int ns[i + 1]) := by rw [List.getElem?_map, List.getElem?_eq_getElem hil]; rfl
      have congr : ∀ (b : Bool), ∃ p', filtR i p' = filtR i p ∧ p' i = b := fun b => ⟨fun k => if k = i then b else p k, filtR_congr fun k hk => by show (if k = i then b else p k) = p k; rw [if_neg (by (first | lia | omega))], if_pos rfl⟩
      refine ⟨_, rfl, _, rfl, _, _, rfl, rfl, sc, _, _, _, rfl, rfl, s2.seq hS, atI_nat hx, _, _, rfl, rfl, (by show (0 : Int) < 10007; decide), _, _, rfl, rfl, .inr ⟨by decide, by decide⟩, _, _, rfl, rfl, (by show (0 : Int) < 10007; decide), _, _, rfl, rfl, (by show (0 : Int) < 4; decide), _, _, rfl, rfl, _, rfl, ?_⟩
      refine ite2 (fun _ => ?_) (fun _ => ?_)
      · have hlen := filtR_len i p
        refine ⟨_, rfl, .inl ⟨rfl, _, SqL.of hd2⟩, _, rfl, d, _, _, rfl, rfl, hd2, by rw [List.length_map]; exact small1000 (by (first | lia | omega)), ?_⟩
        obtain ⟨p', e1, e2⟩ := congr true
        refine ⟨⟨p', fun b o e => by rw [upd_ne (ne_of_none e hd)]; exact s2 _ _ e, ?_⟩, _, rfl⟩
        rw [LI, upd_same, filtR_succ, if_pos e2, e1, List.map_append]
        rfl
      · obtain ⟨p', e1, e2⟩ := congr false
        refine ⟨⟨p', s2, ?_⟩, _, rfl⟩
        rw [LI, filtR_succ, if_neg (by rw [e2]; exact Bool.false_ne_true), e1, List.append_nil]
        exact hd2
    · rintro σ H2 ⟨⟨p, s2, hd2⟩, u, rfl⟩
      refine ⟨_, rfl, kQ H2 d _ s2 hd hd2 (filtR_rises n p) ?_⟩
      have := filtR_len n p
      show (filtR n p).length ≤ 60
      (first | lia | omega)

end
end K06
namespace K06
open PySem L2 XM
theorem RL.trans {L : Nat → PP} {x y z : Int} (h1 : RL L x y) (h2 : RL L y z) : RL L x z := by
  induction h2 with
  | refl => exact h1
  | step _ hb ih => exact .step ih hb
theorem RL.rng {L : Nat → PP} {n : Nat} (S : Sym L n) {x y : Int} (hx : 0 ≤ x ∧ x < n) (h : RL L x y) : 0 ≤ y ∧ y < n := by
  induction h with
  | refl => exact hx
  | @step y' z b _ hb ih => exact S.rng y'.toNat (by (first | lia | omega)) (b, z) hb
theorem RL.symm {L : Nat → PP} {n : Nat} (S : Sym L n) {x y : Int} (hx : 0 ≤ x ∧ x < n) (h : RL L x y) : RL L y x := by
  induction h with
  | refl => exact .refl
  | @step y' z b h0 hb ih =>
    have hy := RL.rng S hx h0
    have := S.back y'.toNat (by (first | lia | omega)) (b, z) hb
    have e : ((y'.toNat : Nat) : Int) = y' := by (first | lia | omega)
    rw [e] at this
    exact (RL.step .refl this).trans ih
theorem sorted_ext : ∀ {l r : List Int}, l.Pairwise (· < ·) → r.Pairwise (· < ·) → (∀ x, x ∈ l ↔ x ∈ r) → l = r
  | [], [], _, _, _ => rfl
  | [], b :: r, _, _, h => absurd ((h b).mpr List.mem_cons_self) (by simp)
  | a :: l, [], _, _, h => absurd ((h a).mp List.mem_cons_self) (by simp)
  | a :: l, b :: r, hl, hr, h => by
    obtain ⟨l1, l2⟩ := List.pairwise_cons.mp hl
    obtain ⟨r1, r2⟩ := List.pairwise_cons.mp hr
    have e : a = b := by
      rcases List.mem_cons.mp ((h a).mp List.mem_cons_self) with e | e
      · exact e
      · rcases List.mem_cons.mp ((h b).mpr List.mem_cons_self) with e' | e'
        · exact e'.symm
        · have := r1 a e
          have := l1 b e'
          (first | lia | omega)
    subst e
    rw [sorted_ext l2 r2 fun x => ⟨fun hx => ?_, fun hx => ?_⟩]
    · rcases List.mem_cons.mp ((h x).mp (List.mem_cons_of_mem _ hx)) with e | e
      · have := l1 x hx
        (first | lia | omega)
      · exact e
    · rcases List.mem_cons.mp ((h x).mpr (List.mem_cons_of_mem _ hx)) with e | e
      · have := r1 x hx
        (first | lia | omega)
      · exact e
open Classical in
/-- the quarters that are come to from r -/
noncomputable def cmp (L : Nat → PP) (n : Nat) (r : Int) : List Int := (upto (n : Int)).filter fun y => decide (RL L r y)
open Classical in
/-- the least quarters of their pieces, below i -/
noncomputable def mins (L : Nat → PP) (i : Nat) : List Int := (upto (i : Int)).filter fun r => decide (∀ y, RL L r y → r ≤ y)
noncomputable def pcs (L : Nat → PP) (n i : Nat) : List (List Int) := (mins L i).map (cmp L n)
theorem upto_sorted (q : Int) : (upto q).Pairwise (· < ·) := by
  unfold upto
  rw [List.pairwise_map]
  exact List.pairwise_lt_range.imp fun h => by (first | lia | omega)
theorem upto_succ (i : Nat) : upto ((i + 1 : Nat) : Int) = upto (i : Int) ++ [(i : Int)] := by
  unfold upto
  have e : (((i + 1 : Nat) : Int)).toNat = i + 1 := by (first | lia | omega)
  have e2 : ((i : Int)).toNat = i := by (first | lia | omega)
  rw [e, e2, List.range_succ, List.map_append]
  rfl
theorem mem_cmp {L : Nat → PP} {n : Nat} {r y : Int} : y ∈ cmp L n r ↔ (0 ≤ y ∧ y < n) ∧ RL L r y := by
  classical
  unfold cmp
  rw [List.mem_filter, mem_upto, decide_eq_true_eq]
theorem mem_mins {L : Nat → PP} {i : Nat} {r : Int} : r ∈ mins L i ↔ (0 ≤ r ∧ r < i) ∧ ∀ y, RL L r y → r ≤ y := by
  classical
  unfold mins
  rw [List.mem_filter, mem_upto, decide_eq_true_eq]
theorem cmp_sorted (L : Nat → PP) (n : Nat) (r : Int) : (cmp L n r).Pairwise (· < ·) := by
  classical
  unfold cmp
  exact (upto_sorted _).filter _
theorem mins_sorted (L : Nat → PP) (i : Nat) : (mins L i).Pairwise (· < ·) := by
  classical
  unfold mins
  exact (upto_sorted _).filter _
theorem mins_succ_no {L : Nat → PP} {i : Nat} (h : ¬ ∀ y, RL L (i : Int) y → (i : Int) ≤ y) : mins L (i + 1) = mins L i := by
  classical
  unfold mins
  rw [upto_succ, List.filter_append, List.filter_cons, if_neg (by rw [decide_eq_true_eq]; exact h)]
  simp
theorem mins_succ {L : Nat → PP} {i : Nat} (h : ∀ y, RL L (i : Int) y → (i : Int) ≤ y) : mins L (i + 1) = mins L i ++ [(i : Int)] := by
  classical
  unfold mins
  rw [upto_succ, List.filter_append, List.filter_cons, if_pos (by rw [decide_eq_true_eq]; exact h)]
  rfl
/-- each quarter has a least one in its piece -/
theorem has_min {L : Nat → PP} {n : Nat} (S : Sym L n) {x : Int} (hx : 0 ≤ x ∧ x < n) : ∃ r, (0 ≤ r ∧ r ≤ x) ∧ RL L r x ∧ ∀ y, RL L r y → r ≤ y := by
  suffices h : ∀ (k : Nat) (x : Int), x.toNat = k → (0 ≤ x ∧ x < n) → ∃ r, (0 ≤ r ∧ r ≤ x) ∧ RL L r x ∧ ∀ y, RL L r y → r ≤ y from h _ x rfl hx
  intro k
  induction k using Nat.strongRecOn with
  | ind k ih =>
    intro x hk hx
    by_cases hm : ∀ y, RL L x y → x ≤ y
    · exact ⟨x, ⟨hx.1, by (first | lia | omega)⟩, .refl, hm⟩
    · obtain ⟨y, hy, hlt⟩ : ∃ y, RL L x y ∧ y < x := by
        refine Classical.byContradiction fun z => hm fun y hy => ?_
        refine Classical.byContradiction fun z2 => z ⟨y, hy, by (first | lia | omega)⟩
      have hr := RL.rng S hx hy
      obtain ⟨r, ⟨h1, h2⟩, h3, h4⟩ := ih y.toNat (by (first | lia | omega)) y rfl hr
      exact ⟨r, ⟨h1, by (first | lia | omega)⟩, h3.trans (RL.symm S hx hy), h4⟩
theorem mem_pcs {L : Nat → PP} {n i : Nat} (S : Sym L n) (hi : i ≤ n) {x : Int} : x ∈ (pcs L n i).flatten ↔ (0 ≤ x ∧ x < n) ∧ ∃ r, r ∈ mins L i ∧ RL L r x := by
  unfold pcs
  rw [List.mem_flatten]
  constructor
  · rintro ⟨g, hg, hx⟩
    obtain ⟨r, hr, rfl⟩ := List.mem_map.mp hg
    obtain ⟨h1, h2⟩ := mem_cmp.mp hx
    exact ⟨h1, r, hr, h2⟩
  · rintro ⟨h1, r, hr, h2⟩
    exact ⟨_, List.mem_map.mpr ⟨r, hr, rfl⟩, mem_cmp.mpr ⟨h1, h2⟩⟩
/-- the next quarter lies in none of the pieces so far just where it is the least of its own -/
theorem next_min {L : Nat → PP} {n i : Nat} (S : Sym L n) (hi : i < n) : (i : Int) ∉ (pcs L n i).flatten ↔ ∀ y, RL L (i : Int) y → (i : Int) ≤ y := by
  have hr : 0 ≤ (i : Int) ∧ (i : Int) < n := by (first | lia | omega)
  rw [mem_pcs S (by (first | lia | omega))]
  constructor
  · intro h y hy
    refine Classical.byContradiction fun z => h ⟨hr, ?_⟩
    have hyr := RL.rng S hr hy
    obtain ⟨r, ⟨h1, h2⟩, h3, h4⟩ := has_min S hyr
    exact ⟨r, mem_mins.mpr ⟨⟨h1, by (first | lia | omega)⟩, h4⟩, h3.trans (RL.symm S hr hy)⟩
  · rintro h ⟨_, r, hm, hri⟩
    obtain ⟨⟨h1, h2⟩, h3⟩ := mem_mins.mp hm
    have := h r (RL.symm S ⟨h1, by (first | lia | omega)⟩ hri)
    (first | lia | omega)
structure GP (nss : List (List Int)) (q : Int) : Prop where
  pf : partsFrom (-1) q nss = true
  nd : nss.flatten.Nodup
  has : ∀ y, 0 ≤ y → y < q → y ∈ nss.flatten
theorem head_cmp {L : Nat → PP} {n : Nat} {r : Int} (hr : r ∈ mins L n) : (cmp L n r).headD 0 = r ∧ cmp L n r ≠ [] := by
  obtain ⟨hr0, hm⟩ := mem_mins.mp hr
  have hin : r ∈ cmp L n r := mem_cmp.mpr ⟨hr0, .refl⟩
  have hs := cmp_sorted L n r
  cases e : cmp L n r with
  | nil => rw [e] at hin; simp at hin
  | cons a t =>
    refine ⟨?_, by simp⟩
    show a = r
    have ha : a ∈ cmp L n r := by rw [e]; simp
    have h1 := hm a (mem_cmp.mp ha).2
    rw [e] at hin hs
    rcases List.mem_cons.mp hin with h | h
    · exact h.symm
    · have := (List.pairwise_cons.mp hs).1 r h
      (first | lia | omega)
theorem pcs_gp {L : Nat → PP} {q : Int} (hq : 1 ≤ q) (S : Sym L q.toNat) : GP (pcs L q.toNat q.toNat) q := by
  have eq : ((q.toNat : Nat) : Int) = q := by (first | lia | omega)
  refine ⟨partsFrom_iff.mpr ⟨fun g hg => ?_, ?_, fun g hg => ?_⟩, ?_, fun y h0 h1 => ?_⟩
  · obtain ⟨r, hr, rfl⟩ := List.mem_map.mp hg
    refine ⟨risesB_iff.mpr ⟨cmp_sorted _ _ _, fun x hx => ?_⟩, (head_cmp hr).2⟩
    have := (mem_cmp.mp hx).1
    (first | lia | omega)
  · unfold pcs
    rw [List.map_map]
    have e : (mins L q.toNat).map ((fun g => List.headD g 0) ∘ cmp L q.toNat) = mins L q.toNat := by
      refine (List.map_congr_left fun r hr => ?_).trans (List.map_id _)
      exact (head_cmp hr).1
    rw [e]
    exact mins_sorted _ _
  · obtain ⟨r, hr, rfl⟩ := List.mem_map.mp hg
    rw [(head_cmp hr).1]
    have := (mem_mins.mp hr).1
    (first | lia | omega)
  · unfold List.Nodup
    rw [List.pairwise_flatten]
    constructor
    · intro g hg
      obtain ⟨r, hr, rfl⟩ := List.mem_map.mp hg
      exact (cmp_sorted _ _ _).imp fun h => by (first | lia | omega)
    · unfold pcs
      rw [List.pairwise_map]
      refine (List.Pairwise.and_mem.mp (mins_sorted L q.toNat)).imp fun {r r'} ⟨hr, hr', hlt⟩ x hx y hy e => ?_
      subst e
      have h1 := (mem_cmp.mp hx).2
      have h2 := (mem_cmp.mp hy).2
      have a1 := mem_mins.mp hr
      have a2 := mem_mins.mp hr'
      have := a2.2 r (h2.trans (RL.symm S a1.1 h1))
      (first | lia | omega)
  · have hy : 0 ≤ y ∧ y < q.toNat := by (first | lia | omega)
    obtain ⟨r, ⟨h1, h2⟩, h3, h4⟩ := has_min S hy
    exact (mem_pcs S (Nat.le_refl _)).mpr ⟨hy, r, mem_mins.mpr ⟨⟨h1, by (first | lia | omega)⟩, h4⟩, h3⟩
theorem pcs_len {L : Nat → PP} {n i : Nat} : (pcs L n i).length ≤ i := by
  unfold pcs
  rw [List.length_map]
  have := nodup_len (mins L i) (upto (i : Int)) ((mins_sorted L i).imp fun h => by (first | lia | omega)) fun r hr => mem_upto.mpr (mem_mins.mp hr).1
  rw [upto_len] at this
  (first | lia | omega)
theorem RLn.rl {L : Nat → PP} {x y : Int} {m : Nat} (h : RLn L x m y) : RL L x y := by
  induction h with
  | refl => exact .refl
  | step _ hb ih => exact .step ih hb
theorem RL.rln {L : Nat → PP} {x y : Int} (h : RL L x y) : ∃ m, RLn L x m y := by
  induction h with
  | refl => exact ⟨0, .refl⟩
  | step _ hb ih =>
    obtain ⟨m, hm⟩ := ih
    exact ⟨m + 1, .step hm hb⟩
theorem BF.rl' {H H2 : Hp} {d qa : Addr} {L : Nat → PP} {n : Nat} {x : Int} {kvs : List (Key × V)} {qs : List Int} {ds : List Nat} (B : BF H H2 d qa L n x kvs qs ds) : ∀ y ∈ qs, RL L x y := fun y hy => by
  obtain ⟨j, hj, e⟩ := List.mem_iff_getElem.mp hy
  have hd : j < ds.length := by rw [B.dl]; exact hj
  exact (B.rl j y ds[j] (by rw [List.getElem?_eq_getElem hj, e]) (List.getElem?_eq_getElem hd)).rl
section
variable {P : Program} {w : World} {K : PySem.W.Frag} {mg : Str → Option Value} {base : Heap} {CE CS CQ CT : Addr}

/-! pieces_of -/
inductive spPiecesI (CT CS : Addr) (vs : List V) (H : Hp) (Q : VK) (E : XK) : Prop
  | mk (p l2 : Addr) (q : Int) (ys : List V) (ps : PP) (l : Addr) (bs : List Int) : (vs = [.ref p, .ref l]) → (TownAt CT H p l2 q ys) → (PV H ys ps) → (fits q ps = true) → (LI H l bs) → (bs.length ≤ 100) → ((risesB bs ps.length = true → ∀ (H' : Hp) (d : Addr) (as : List Addr), Same H H' → H d = none → H' d = some (.lst (as.map V.ref)) → LS H' (as.map V.ref) (pcs (stp ps bs) q.toNat q.toNat) → (∀ a ∈ as, H a = none ∧ a ≠ d) → as.Nodup → Q (.ref d) H')) → ((risesB bs ps.length = false → ∀ H', Same H H' → E (.ref CS) none H')) → spPiecesI CT CS vs H Q E
def spPieces (CT CS : Addr) : Sp := fun vs H Q E => spPiecesI CT CS vs H Q E
theorem scPieces : FnScope ["town", "some", "steps", "pieces", "placed", "quarter", "piece", "member"] ["town", "some"] (defScope sPieces) := ⟨rfl, rfl, rfl, by decide +kernel, rfl, by decide +kernel, by decide +kernel⟩
theorem ok_pieces {f f1 f2 f3 : Addr} {fd fd1 fd2 fd3 : FuncData} (T : Txt K mg CE CS CQ CT) (F : Fun K "pieces_of" "pieces_of" sPieces f fd)
    (G1 : FnOk P w K mg base (CXE P w) 3 f1 fd1 ["some", "bridges"] (spCheckS CS)) (b1 : Binds K fd1 ["some", "bridges"] []) (m1 : mg "check_some" = some (.ref f1)) (k1 : PySem.W.keepIn K (.ref f1) = true)
    (G2 : FnOk P w K mg base CX0 1 f2 fd2 ["town", "some"] (spSteps CT)) (b2 : Binds K fd2 ["town", "some"] []) (m2 : mg "steps_over" = some (.ref f2)) (k2 : PySem.W.keepIn K (.ref f2) = true)
    (G3 : FnOk P w K mg base CX0 1 f3 fd3 ["steps", "start"] spReach) (b3 : Binds K fd3 ["steps", "start"] []) (m3 : mg "reached_from" = some (.ref f3)) (k3 : PySem.W.keepIn K (.ref f3) = true) :
    FnOk P w K mg base (CXE P w) 4 f fd ["town", "some"] (spPieces CT CS) := by
  refine F.okE scPieces (fun vs H Q E h => ?_) (fun cdv A outer s H vs Q E hr h => ?_)
  · obtain ⟨p, l2, q, ys, ps, l, bs, rfl, _⟩ := h
    rfl
  · obtain ⟨p, l2, q, ys, ps, l, bs, rfl, ⟨⟨dx, ht⟩, hl2⟩, hp, hft, hl, hbl, kQ, kE⟩ := h
    have lets := lets_cx (P := P) (w := w) (K := K) (mg := mg) (base := base) (N := ["town", "some", "steps", "pieces", "placed", "quarter", "piece", "member"]) (qual := "pieces_of") (scope := defScope sPieces) (f := f) (cd := cdv) (A := A) (outer := outer) (s := s) (H := H) (E := E)
    have hu := hu_of hr
    have hr1 := hr.mono (show 1 ≤ 3 by (first | lia | omega))
    refine ⟨_, pss_cons (ps_expr (pe_call G1 hr (by rfl) m1 k1 b1 .nil lets.pass (pa_cons (pv 1) (pa_cons (pe_fld (pv 0) rfl) pa_nil))))
      (pss_cons (ps_set (i := 2) scPieces.nd rfl (Or.inl rfl) (pe_call G2 hr1 (by rfl) m2 k2 b2 .nil pass0 (pa_cons (pv 0) (pa_cons (pv 1) pa_nil))))
      (pss_cons (ps_set (i := 3) scPieces.nd rfl (Or.inl rfl) (pe_lst pa_nil))
      (pss_cons (ps_set (i := 4) scPieces.nd rfl (Or.inl rfl) pe_dnewK)
      (pss_cons (ps_for lets.po rfl (pi_range1 (by rfl) T.range (pa_cons (pe_fld (pv 0) rfl) pa_nil)) (pg_name (i := 5) scPieces.nd rfl (Or.inl rfl))
        (pss_one (ps_if (pt_cmp (pc_dnotin hu (pv 5) (pv 4)))
          (pss_cons (ps_set (i := 6) scPieces.nd rfl (Or.inl rfl) (pe_callB (call_sortedD rfl) (by rfl) T.sorted boot_sorted (pa_cons (pe_call G3 hr1 (by rfl) m3 k3 b3 .nil pass0 (pa_cons (pv 2) (pa_cons (pv 5) pa_nil))) pa_nil)))
          (pss_cons (ps_expr (pe_bm PySem.F.plainAttrs_list PySem.F.slot_list_append PySem.F.type_list_append mt_append (pv 3) (pa_cons (pv 6) pa_nil)))
          (pss_one (ps_for lets.po rfl (pi_list (pv 6)) (pg_name (i := 7) scPieces.nd rfl (Or.inl rfl)) (pss_one (ps_dput hu (pv 4) (pv 7) pe_bl rfl)))))) pss_nil)))
      (pss_one (ps_ret (pv 3))))))), ?_⟩
    try dsimp only [cx_of, cx_nox, cx_comp]
    obtain ⟨⟨hq1, hq2⟩, h60, hok⟩ := fits_iff hft
    have hlen := hp.length
    refine ⟨_, rfl, _, rfl, p, CT, dx, _, _, rfl, ht, T.cl, T.nb, flds_b _ _, l, l2, bs, ys, rfl, hl, hl2, by (first | lia | omega), fun hb H1 s1 => ?_, fun hb => kE (by rw [← hlen]; exact hb)⟩
    rw [hlen] at hb
    have hbs : ∀ b ∈ bs, 0 ≤ b ∧ b < ps.length := (risesB_iff.mp hb).2
    refine ⟨_, rfl, _, rfl, p, l2, q, ys, ps, l, bs, rfl, ⟨⟨dx, s1 _ _ ht⟩, s1 _ _ hl2⟩, hp.same s1, hft, s1 _ _ hl, hbl, hbs, fun H2 sa s2 hsa => ?_⟩
    have S : Sym (stp ps bs) q.toNat := stp_sym hok hbs
    generalize stp ps bs = L at hsa S kQ
    refine ⟨by show 0 ≤ sizeLine; decide, fun pa hpa => ?_⟩
    intro d hd
    have t1 : Same H2 (upd H2 pa (.lst [])) := Same.rfl'.new hpa
    have t2 := t1.tr (Same.rfl'.new (o := .dK []) hd)
    have st := (s1.tr s2).tr t2
    have npd : pa ≠ d := ne_of_none upd_same hd
    have hd' : H2 d = none := t1.free hd
    have fpa : H pa = none := (s1.tr s2).free hpa
    have fd' : H d = none := (s1.tr s2).free hd'
    refine ⟨_, rfl, p, CT, dx, _, _, rfl, st _ _ ht, T.cl, T.nq, flds_q _ _, q, rfl, by (first | lia | omega), by (first | lia | omega), for_range (lo := 0) (n := q.toNat) (fun i σ H3 => (∃ (as : List Addr) (kvs : List (Key × V)), Same H2 H3 ∧ H3 pa = some (.lst (as.map V.ref)) ∧ LS H3 (as.map V.ref) (pcs L q.toNat i) ∧ (∀ a ∈ as, H2 a = none ∧ a ≠ pa) ∧ as.Nodup ∧
        H3 d = some (.dK kvs) ∧ (∀ y : Int, (valV kvs (Sum.inl y)).isSome = true ↔ y ∈ (pcs L q.toNat i).flatten) ∧ kvs.length ≤ 24 * i) ∧ ∃ u v z, σ = [some (.ref p), some (.ref l), some (.ref sa), some (.ref pa), some (.ref d), u, v, z])
      ⟨⟨[], [], t2, by rw [upd_ne npd]; exact upd_same, .nil, fun a z => by simp at z, List.nodup_nil, upd_same, fun y => by simp [valV_nil, pcs, mins, upto], by simp⟩, _, _, _, rfl⟩ ?_ ?_⟩
    · rintro i σ H3 hi ⟨⟨as, kvs, s3, hpa3, hLS, hfr, hnd, hd3, hkv, hkl⟩, u, v, z, rfl⟩
      have e0 : (0 : Int) + (i : Int) = (i : Int) := by (first | lia | omega)
      rw [e0]
      have nx := next_min S hi
      have hlas : as.length = (pcs L q.toNat i).length := by simpa using hLS.length
      have hpcl : (pcs L q.toNat i).length ≤ i := by
        unfold pcs
        rw [List.length_map]
        have := nodup_len (mins L i) (upto (i : Int)) ((mins_sorted L i).imp fun h => by (first | lia | omega)) fun r hr => mem_upto.mpr (mem_mins.mp hr).1
        rw [upto_len] at this
        (first | lia | omega)
      refine ⟨_, rfl, _, rfl, d, _, rfl, DGet.k (k := Sum.inl (i : Int)) hd3, _, rfl, ?_⟩
      have hki := hkv (i : Int)
      cases ev : valV kvs (Sum.inl (i : Int)) with
      | some vv =>
        rw [ev] at hki
        have hin := hki.mp rfl
        have hnm : ¬ ∀ y, RL L (i : Int) y → (i : Int) ≤ y := fun z => nx.mpr z hin
        have ep : pcs L q.toNat (i + 1) = pcs L q.toNat i := by unfold pcs; rw [mins_succ_no hnm]
        refine iteF ⟨⟨as, kvs, s3, hpa3, by rw [ep]; exact hLS, hfr, hnd, hd3, by rw [ep]; exact hkv, by (first | lia | omega)⟩, _, _, _, rfl⟩
      | none =>
        rw [ev] at hki
        have hnin : (i : Int) ∉ (pcs L q.toNat i).flatten := fun z => by
          have := hki.mpr z
          cases this
        have hmin := nx.mp hnin
        have ep : pcs L q.toNat (i + 1) = pcs L q.toNat i ++ [cmp L q.toNat (i : Int)] := by unfold pcs; rw [mins_succ hmin, List.map_append]; rfl
        have s3' := s2.tr s3
        refine iteT ⟨_, rfl, _, rfl, sa, q.toNat, L, (i : Int), rfl, hsa.same s3, by (first | lia | omega), by (first | lia | omega), by (first | lia | omega), S.rng, fun H4 d4 qa kv4 qs ds4 B hd4 hcomp0 => ?_⟩
        have hcomp : ∀ y, RL L (i : Int) y → y ∈ qs := fun y hy => by
          obtain ⟨m, hm⟩ := hy.rln
          obtain ⟨j, k, a1, _⟩ := hcomp0 m y hm
          exact List.mem_of_getElem? a1
        have hql := B.len
        refine ⟨d4, kv4, qs, rfl, B.hd, B.keys, by (first | lia | omega), fun pc ns' hpc hperm hsrt => ?_⟩
        have epc : ns' = cmp L q.toNat (i : Int) := by
          have nd' : ns'.Nodup := hperm.nodup_iff.mpr B.nd
          refine sorted_ext ?_ (cmp_sorted _ _ _) fun x => ?_
          · have := List.pairwise_and_iff.mpr ⟨hsrt, nd'⟩
            exact this.imp fun h => by (first | lia | omega)
          · rw [hperm.mem_iff, mem_cmp]
            exact ⟨fun hx => ⟨B.rng x hx, B.rl' x hx⟩, fun hx => hcomp x hx.2⟩
        subst epc
        have s5 : Same H3 (upd H4 pc (.lst ((cmp L q.toNat (i : Int)).map V.int))) := B.same.tr (Same.rfl'.new hpc)
        have npc : pa ≠ pc := ne_of_none (B.same _ _ hpa3) hpc
        have hpc3 : H3 pc = none := B.same.free hpc
        have hpa5 := s5 _ _ hpa3
        refine ⟨_, rfl, .inl ⟨rfl, _, SqL.of hpa5⟩, _, rfl, pa, _, _, rfl, rfl, hpa5, by rw [List.length_map, hlas]; exact small1000 (by (first | lia | omega)), ?_⟩
        generalize hH6 : upd (upd H4 pc (.lst ((cmp L q.toNat (i : Int)).map V.int))) pa (.lst (as.map V.ref ++ [V.ref pc])) = H6
        have up6 : ∀ b o, H3 b = some o → b ≠ pa → H6 b = some o := fun b o e hb => by
          rw [← hH6, upd_ne hb]
          exact s5 _ _ e
        have s6 : Same H2 H6 := fun b o e => up6 b o (s3 _ _ e) (ne_of_none e hpa)
        have hpa6 : H6 pa = some (.lst ((as ++ [pc]).map V.ref)) := by rw [← hH6, upd_same, List.map_append]; rfl
        have hpc6 : LI H6 pc (cmp L q.toNat (i : Int)) := by rw [LI, ← hH6, upd_ne (Ne.symm npc), upd_same]
        have hLS6 : LS H6 ((as ++ [pc]).map V.ref) (pcs L q.toNat (i + 1)) := by
          rw [ep, List.map_append]
          refine All2.append ?_ (.cons ⟨pc, rfl, hpc6⟩ .nil)
          refine All2.of_get hLS.length fun k x g h1 h2 => ?_
          obtain ⟨g', hg', a, rfl, hag⟩ := hLS.get h1
          rw [h2] at hg'
          cases hg'
          rw [List.getElem?_map] at h1
          obtain ⟨a', ha', e⟩ := Option.map_eq_some_iff.mp h1
          cases e
          exact ⟨a, rfl, up6 _ _ hag (hfr a (List.mem_of_getElem? ha')).2⟩
        have hfr6 : ∀ a ∈ as ++ [pc], H2 a = none ∧ a ≠ pa := fun a ha => by
          rcases List.mem_append.mp ha with ha | ha
          · exact hfr a ha
          · rw [List.mem_singleton] at ha
            subst ha
            exact ⟨s3.free hpc3, Ne.symm npc⟩
        have hnd6 : (as ++ [pc]).Nodup := by
          refine List.nodup_append.mpr ⟨hnd, by simp, fun x hx y hy e => ?_⟩
          rw [List.mem_singleton] at hy
          subst hy
          subst e
          obtain ⟨k, hk, e2⟩ := List.mem_iff_getElem.mp hx
          obtain ⟨g, _, a, ea, hag⟩ := hLS.get (i := k) (x := .ref x) (by rw [List.getElem?_map, List.getElem?_eq_getElem hk, e2]; rfl)
          cases ea
          rw [LI, hpc3] at hag
          cases hag
        have hd6 : H6 d = some (.dK kvs) := up6 _ _ hd3 (Ne.symm npd)
        have hcl : (cmp L q.toNat (i : Int)).length ≤ 24 := by
          have := nodup_len (cmp L q.toNat (i : Int)) (upto ((q.toNat : Nat) : Int)) ((cmp_sorted L q.toNat (i : Int)).imp fun h => by (first | lia | omega)) fun r hr => mem_upto.mpr (mem_cmp.mp hr).1
          rw [upto_len] at this
          (first | lia | omega)
        refine ⟨_, rfl, pc, rfl, ⟨_, SqL.of hpc6⟩, for_list (K := K) (a := pc) (xs := (cmp L q.toNat (i : Int)).map V.int) (fun j σ H7 => (∃ kvs', H7 d = some (.dK kvs') ∧ (∀ b o, H6 b = some o → b ≠ d → H7 b = some o) ∧ (∀ y : Int, (valV kvs' (Sum.inl y)).isSome = true ↔ (y ∈ (pcs L q.toNat i).flatten ∨ y ∈ (cmp L q.toNat (i : Int)).take j)) ∧ kvs'.length ≤ kvs.length + j) ∧
            ∃ z, σ = [some (.ref p), some (.ref l), some (.ref sa), some (.ref pa), some (.ref d), some (.int (i : Int)), some (.ref pc), z])
          ⟨⟨kvs, hd6, fun b o e _ => e, fun y => by rw [hkv y]; simp, by (first | lia | omega)⟩, _, rfl⟩ (fun j σ H7 _ ⟨⟨_, _, k7, _⟩, _⟩ => SqL.of (k7 _ _ hpc6 (ne_of hpc6 hd6 (by intro z; cases z)))) ?_ ?_⟩
        · rintro j y σ H7 hj ⟨⟨kvs', hd7, k7, hk7, hl7⟩, z, rfl⟩
          rw [List.getElem?_map] at hj
          obtain ⟨n, hn, rfl⟩ := Option.map_eq_some_iff.mp hj
          have hjl := (List.getElem?_eq_some_iff.mp hn).1
          have hsz : sizeLine = 16777216 := sizeLine_eq
          refine ⟨_, rfl, _, rfl, d, _, rfl, DPut.k (k := Sum.inl n) hd7 (by (first | lia | omega)), ⟨⟨_, upd_same, fun b o e hb => by rw [upd_ne hb]; exact k7 b o e hb, fun y => ?_, ?_⟩, _, rfl⟩⟩
          · rw [valV_put, take_snoc' hn]
            by_cases e : (Sum.inl y : Key) = Sum.inl n
            · rw [if_pos e]
              have e' : y = n := Sum.inl.inj e
              exact ⟨fun _ => .inr (by rw [e']; simp), fun _ => rfl⟩
            · rw [if_neg e, hk7 y]
              have e' : y ≠ n := fun z => e (by rw [z])
              constructor
              · rintro (h | h)
                · exact .inl h
                · exact .inr (List.mem_append_left _ h)
              · rintro (h | h)
                · exact .inl h
                · rcases List.mem_append.mp h with h | h
                  · exact .inr h
                  · exact absurd (List.mem_singleton.mp h) e'
          · have := length_putK kvs' (Sum.inl n) (.bl true)
            (first | lia | omega)
        · rintro σ H7 ⟨⟨kvs', hd7, k7, hk7, hl7⟩, z, rfl⟩
          rw [List.length_map] at hk7 hl7
          rw [List.take_length] at hk7
          refine ⟨⟨as ++ [pc], kvs', fun b o e => k7 b o (s6 _ _ e) (ne_of_none e hd'), k7 _ _ hpa6 npd, ?_, hfr6, hnd6, hd7, fun y => ?_, by (first | lia | omega)⟩, _, _, _, rfl⟩
          · exact hLS6.imp fun x g ⟨a, ea, hag⟩ => ⟨a, ea, k7 _ _ hag (ne_of hag hd6 (by intro z; cases z))⟩
          · rw [hk7 y, ep, List.flatten_append]
            simp
    · rintro σ H3 ⟨⟨as, kvs, s3, hpa3, hLS, hfr, hnd, _⟩, u, v, z, rfl⟩
      refine ⟨_, rfl, kQ hb H3 pa as ((s1.tr s2).tr s3) fpa hpa3 hLS (fun a ha => ⟨(s1.tr s2).free (hfr a ha).1, (hfr a ha).2⟩) hnd⟩

/-! joins_all -/
inductive spJoinsI (CT CS : Addr) (vs : List V) (H : Hp) (Q : VK) (E : XK) : Prop
  | mk (p l2 : Addr) (q : Int) (ys : List V) (ps : PP) (l : Addr) (bs : List Int) : (vs = [.ref p, .ref l]) → (TownAt CT H p l2 q ys) → (PV H ys ps) → (fits q ps = true) → (LI H l bs) → (bs.length ≤ 100) → ((risesB bs ps.length = true → ∀ (H' : Hp), Same H H' → Q (.bl (decide ((pcs (stp ps bs) q.toNat q.toNat).length = 1))) H')) → ((risesB bs ps.length = false → ∀ H', Same H H' → E (.ref CS) none H')) → spJoinsI CT CS vs H Q E
def spJoins (CT CS : Addr) : Sp := fun vs H Q E => spJoinsI CT CS vs H Q E
theorem scJoins : FnScope ["town", "some"] ["town", "some"] (defScope sJoins) := ⟨rfl, rfl, rfl, by decide +kernel, rfl, by decide +kernel, by decide +kernel⟩
theorem ok_joins {f f1 : Addr} {fd fd1 : FuncData} (T : Txt K mg CE CS CQ CT) (F : Fun K "joins_all" "joins_all" sJoins f fd)
    (G1 : FnOk P w K mg base (CXE P w) 4 f1 fd1 ["town", "some"] (spPieces CT CS)) (b1 : Binds K fd1 ["town", "some"] []) (m1 : mg "pieces_of" = some (.ref f1)) (k1 : PySem.W.keepIn K (.ref f1) = true) :
    FnOk P w K mg base (CXE P w) 5 f fd ["town", "some"] (spJoins CT CS) := by
  refine F.okE scJoins (fun vs H Q E h => ?_) (fun cdv A outer s H vs Q E hr h => ?_)
  · obtain ⟨p, l2, q, ys, ps, l, bs, rfl, _⟩ := h
    rfl
  · obtain ⟨p, l2, q, ys, ps, l, bs, rfl, ht, hp, hft, hl, hbl, kQ, kE⟩ := h
    have lets := lets_cx (P := P) (w := w) (K := K) (mg := mg) (base := base) (N := ["town", "some"]) (qual := "joins_all") (scope := defScope sJoins) (f := f) (cd := cdv) (A := A) (outer := outer) (s := s) (H := H) (E := E)
    refine ⟨_, pss_one (ps_ret (pe_cmpR op_eq (pe_callB c_len (by rfl) T.len PySem.boot_len (pa_cons (pe_call G1 hr (by rfl) m1 k1 b1 .nil lets.pass (pa_cons (pv 0) (pa_cons (pv 1) pa_nil))) pa_nil)) pe_int (nomark _))), ?_⟩
    try dsimp only [cx_of, cx_nox, cx_comp]
    refine ⟨_, rfl, _, rfl, p, l2, q, ys, ps, l, bs, rfl, ht, hp, hft, hl, hbl, fun hb H1 d as s1 _ hd hLS _ _ => ?_, kE⟩
    refine ⟨d, _, rfl, .inl (SqL.of hd), rfl, ?_⟩
    have := kQ hb H1 s1
    rw [hLS.length]
    have e : decide (V.int ((pcs (stp ps bs) q.toNat q.toNat).length : Int) = V.int 1) = decide ((pcs (stp ps bs) q.toNat q.toNat).length = 1) := dec_nat (b := 1)
    rw [e]
    exact this
end
end K06
namespace K06
open PySem L2 XM
/-! plain mathematics: pieces, counted -/
def InE (n : Nat) (es : PP) : Prop := ∀ e ∈ es, (0 ≤ e.1 ∧ e.1 < n) ∧ (0 ≤ e.2 ∧ e.2 < n)
theorem InE.sub {n : Nat} {es es' : PP} (h : InE n es) (hs : ∀ e ∈ es', e ∈ es) : InE n es' := fun e he => h e (hs e he)
theorem RE.rng {es : PP} {n : Nat} {x y : Int} (h : InE n es) (hx : 0 ≤ x ∧ x < n) (hr : RE es x y) : 0 ≤ y ∧ y < n := by
  induction hr with
  | refl => exact hx
  | step _ he ih =>
    rcases he with he | he
    · exact (h _ he).2
    · exact (h _ he).1
theorem re_sub {es es' : PP} (h : ∀ p ∈ es, RE es' p.1 p.2) {x y : Int} (hr : RE es x y) : RE es' x y := by
  induction hr with
  | refl => exact .refl
  | step _ he ih =>
    rcases he with he | he
    · exact ih.trans (h _ he)
    · exact ih.trans (h _ he).symm
theorem has_minE {es : PP} {n : Nat} (h : InE n es) {x : Int} (hx : 0 ≤ x ∧ x < n) : ∃ r : Int, (0 ≤ r ∧ r < n) ∧ RE es r x ∧ ∀ y, RE es r y → r ≤ y := by
  suffices q : ∀ (k : Nat) (x : Int), x.toNat = k → (0 ≤ x ∧ x < n) → ∃ r : Int, (0 ≤ r ∧ r < n) ∧ RE es r x ∧ ∀ y, RE es r y → r ≤ y from q _ x rfl hx
  intro k
  induction k using Nat.strongRecOn with
  | ind k ih =>
    intro x hk hx
    by_cases hm : ∀ y, RE es x y → x ≤ y
    · exact ⟨x, hx, .refl, hm⟩
    · obtain ⟨y, hy, hlt⟩ : ∃ y, RE es x y ∧ y < x := by
        refine Classical.byContradiction fun z => hm fun y hy => ?_
        refine Classical.byContradiction fun z2 => z ⟨y, hy, by (first | lia | omega)⟩
      have hr := RE.rng h hx hy
      obtain ⟨r, h1, h3, h4⟩ := ih y.toNat (by (first | lia | omega)) y rfl hr
      exact ⟨r, h1, h3.trans hy.symm, h4⟩
open Classical in
noncomputable def minsE (es : PP) (n : Nat) : List Int := (upto (n : Int)).filter fun r => decide (∀ y, RE es r y → r ≤ y)
open Classical in
noncomputable def cmpE (es : PP) (n : Nat) (r : Int) : List Int := (upto (n : Int)).filter fun y => decide (RE es r y)
noncomputable def pcsE (es : PP) (n : Nat) : List (List Int) := (minsE es n).map (cmpE es n)
theorem mem_minsE {es : PP} {n : Nat} {r : Int} : r ∈ minsE es n ↔ (0 ≤ r ∧ r < n) ∧ ∀ y, RE es r y → r ≤ y := by
  classical
  unfold minsE
  rw [List.mem_filter, mem_upto, decide_eq_true_eq]
theorem mem_cmpE {es : PP} {n : Nat} {r y : Int} : y ∈ cmpE es n r ↔ (0 ≤ y ∧ y < n) ∧ RE es r y := by
  classical
  unfold cmpE
  rw [List.mem_filter, mem_upto, decide_eq_true_eq]
theorem minsE_sorted (es : PP) (n : Nat) : (minsE es n).Pairwise (· < ·) := by
  classical
  unfold minsE
  exact (upto_sorted _).filter _
theorem pcsE_congr {es es' : PP} {n : Nat} (h : ∀ x y, RE es x y ↔ RE es' x y) : pcsE es n = pcsE es' n := by
  have e : RE es = RE es' := funext fun x => funext fun y => propext (h x y)
  unfold pcsE minsE cmpE
  rw [e]
theorem re_rl {ps : PP} {bs : List Int} {q : Int} (S : Sym (stp ps bs) q.toNat) {x y : Int} (hx : 0 ≤ x ∧ x < q) : RE (bs.map (eb ps)) x y ↔ RL (stp ps bs) x y := by
  rw [re_rln S hx]
  exact ⟨fun ⟨m, h⟩ => h.rl, fun h => h.rln⟩
theorem pcs_E {ps : PP} {bs : List Int} {q : Int} (S : Sym (stp ps bs) q.toNat) : pcs (stp ps bs) q.toNat q.toNat = pcsE (bs.map (eb ps)) q.toNat := by
  classical
  have hr : ∀ r : Int, r ∈ upto ((q.toNat : Nat) : Int) → 0 ≤ r ∧ r < q := fun r h => by
    have := mem_upto.mp h
    (first | lia | omega)
  have e1 : mins (stp ps bs) q.toNat = minsE (bs.map (eb ps)) q.toNat := by
    unfold mins minsE
    refine List.filter_congr fun r h => ?_
    rw [decide_eq_decide]
    exact ⟨fun z y hy => z y ((re_rl S (hr r h)).mp hy), fun z y hy => z y ((re_rl S (hr r h)).mpr hy)⟩
  unfold pcs pcsE
  rw [e1]
  refine List.map_congr_left fun r h => ?_
  have h0 := (mem_minsE.mp h).1
  unfold cmp cmpE
  refine List.filter_congr fun y _ => ?_
  rw [decide_eq_decide]
  exact (re_rl S (by (first | lia | omega))).symm
/-! how many close a ring -/
open Classical in
noncomputable def nclo (es : PP) : Nat := ((List.range es.length).filter fun j => decide (CloE es j)).length
theorem cloE_left {es : PP} {e : Int × Int} {j : Nat} (hj : j < es.length) : CloE (es ++ [e]) j ↔ CloE es j := by
  unfold CloE
  rw [List.getElem?_append_left hj, List.take_append_of_le_length (Nat.le_of_lt hj)]
theorem cloE_last {es : PP} {e : Int × Int} : CloE (es ++ [e]) es.length ↔ RE es e.1 e.2 := by
  unfold CloE
  rw [List.getElem?_append_right (Nat.le_refl _), Nat.sub_self, List.take_left]
  constructor
  · rintro ⟨e', he, h⟩
    cases he
    exact h
  · intro h
    exact ⟨e, rfl, h⟩
theorem nclo_snoc (es : PP) (e : Int × Int) : (RE es e.1 e.2 → nclo (es ++ [e]) = nclo es + 1) ∧ (¬ RE es e.1 e.2 → nclo (es ++ [e]) = nclo es) := by
  classical
  have hl : (es ++ [e]).length = es.length + 1 := by simp
  have e1 : ((List.range es.length).filter fun j => decide (CloE (es ++ [e]) j)) = ((List.range es.length).filter fun j => decide (CloE es j)) :=
    List.filter_congr fun j hj => by
      rw [decide_eq_decide]
      exact cloE_left (List.mem_range.mp hj)
  constructor
  · intro h
    unfold nclo
    rw [hl, List.range_succ, List.filter_append, e1, List.length_append, List.filter_cons, if_pos (by rw [decide_eq_true_eq]; exact cloE_last.mpr h)]
    rfl
  · intro h
    unfold nclo
    rw [hl, List.range_succ, List.filter_append, e1, List.length_append, List.filter_cons, if_neg (by rw [decide_eq_true_eq]; exact fun z => h (cloE_last.mp z))]
    rfl
theorem nclo_zero {es : PP} : nclo es = 0 ↔ ∀ j, ¬ CloE es j := by
  classical
  unfold nclo
  rw [List.length_eq_zero_iff, List.filter_eq_nil_iff]
  constructor
  · intro h j hj
    obtain ⟨e, he, _⟩ := id hj
    exact h j (List.mem_range.mpr (List.getElem?_eq_some_iff.mp he).1) (decide_eq_true hj)
  · intro h j _ hj
    exact h j (of_decide_eq_true hj)
theorem minsE_stay {es : PP} {n : Nat} {a c : Int} (h : RE es a c) : minsE (es ++ [(a, c)]) n = minsE es n := by
  have e : RE (es ++ [(a, c)]) = RE es := funext fun x => funext fun y => propext ⟨fun z => by
    rcases re_add.mp z with z | ⟨z1, z2⟩ | ⟨z1, z2⟩
    · exact z
    · exact (z1.trans h).trans z2.symm
    · exact (z1.trans h.symm).trans z2.symm, fun z => re_add.mpr (.inl z)⟩
  unfold minsE
  rw [e]
theorem minsE_join {es : PP} {n : Nat} {a c : Int} (hE : InE n es) (ha : 0 ≤ a ∧ a < n) (hc : 0 ≤ c ∧ c < n) (h : ¬ RE es a c) : (minsE (es ++ [(a, c)]) n).length + 1 = (minsE es n).length := by
  obtain ⟨ra, ra0, ra1, ra2⟩ := has_minE hE ha
  obtain ⟨rc, rc0, rc1, rc2⟩ := has_minE hE hc
  have hne : ra ≠ rc := fun e => h (ra1.symm.trans (e ▸ rc1))
  -- the greater of the two goes
  obtain ⟨m, hm, hmm⟩ : ∃ m, m ∈ minsE es n ∧ ∀ r, r ∈ minsE (es ++ [(a, c)]) n ↔ r ∈ minsE es n ∧ r ≠ m := by
    have key : ∀ m k : Int, (m = ra ∧ k = rc ∨ m = rc ∧ k = ra) → k < m → ∀ r, r ∈ minsE (es ++ [(a, c)]) n ↔ r ∈ minsE es n ∧ r ≠ m := fun m k hmk hlt r => by
      rw [mem_minsE, mem_minsE]
      constructor
      · rintro ⟨h0, h1⟩
        refine ⟨⟨h0, fun y hy => h1 y (re_add.mpr (.inl hy))⟩, fun e => ?_⟩
        subst e
        have : RE (es ++ [(a, c)]) r k := by
          rcases hmk with ⟨e1, e2⟩ | ⟨e1, e2⟩
          · exact re_add.mpr (.inr (.inl ⟨e1 ▸ ra1, e2 ▸ rc1⟩))
          · exact re_add.mpr (.inr (.inr ⟨e1 ▸ rc1, e2 ▸ ra1⟩))
        have := h1 k this
        (first | lia | omega)
      · rintro ⟨⟨h0, h1⟩, hn⟩
        refine ⟨h0, fun y hy => ?_⟩
        have isA : RE es r a → r = ra := fun z => by
          have x1 := h1 ra (z.trans ra1.symm)
          have x2 := ra2 r (ra1.trans z.symm)
          (first | lia | omega)
        have isC : RE es r c → r = rc := fun z => by
          have x1 := h1 rc (z.trans rc1.symm)
          have x2 := rc2 r (rc1.trans z.symm)
          (first | lia | omega)
        rcases re_add.mp hy with z | ⟨z1, z2⟩ | ⟨z1, z2⟩
        · exact h1 y z
        · have e := isA z1
          have hy2 := rc2 y (rc1.trans z2.symm)
          rcases hmk with ⟨e1, e2⟩ | ⟨e1, e2⟩
          · exact absurd (e.trans e1.symm) hn
          · (first | lia | omega)
        · have e := isC z1
          have hy2 := ra2 y (ra1.trans z2.symm)
          rcases hmk with ⟨e1, e2⟩ | ⟨e1, e2⟩
          · (first | lia | omega)
          · exact absurd (e.trans e1.symm) hn
    rcases Int.lt_or_gt_of_ne hne with hlt | hlt
    · exact ⟨rc, mem_minsE.mpr ⟨rc0, rc2⟩, key rc ra (.inr ⟨rfl, rfl⟩) hlt⟩
    · exact ⟨ra, mem_minsE.mpr ⟨ra0, ra2⟩, key ra rc (.inl ⟨rfl, rfl⟩) hlt⟩
  have e : minsE (es ++ [(a, c)]) n = (minsE es n).erase m := by
    have nd : (minsE es n).Nodup := (minsE_sorted es n).imp fun h => by (first | lia | omega)
    refine sorted_ext (minsE_sorted _ _) ((minsE_sorted es n).sublist List.erase_sublist) fun x => ?_
    rw [hmm x, nd.mem_erase_iff]
    exact and_comm
  rw [e, List.length_erase_of_mem hm]
  have := List.length_pos_of_mem hm
  (first | lia | omega)
theorem count_E {n : Nat} {es : PP} (hE : InE n es) : (minsE es n).length + es.length = n + nclo es := by
  suffices h : ∀ k, k ≤ es.length → (minsE (es.take k) n).length + k = n + nclo (es.take k) by
    have := h es.length (Nat.le_refl _)
    rwa [List.take_length] at this
  intro k
  induction k with
  | zero =>
    intro _
    rw [List.take_zero]
    have e : minsE [] n = upto (n : Int) := by
      classical
      unfold minsE
      rw [List.filter_eq_self]
      intro r _
      exact decide_eq_true fun y hy => by rw [re_nil hy]; (first | lia | omega)
    have z : nclo [] = 0 := nclo_zero.mpr fun j ⟨_, h, _⟩ => by simp at h
    rw [e, upto_len, z]
    (first | lia | omega)
  | succ k ih =>
    intro hk
    have ih := ih (by (first | lia | omega))
    obtain ⟨e, he⟩ : ∃ e, es[k]? = some e := ⟨_, List.getElem?_eq_getElem (by (first | lia | omega))⟩
    obtain ⟨a, c⟩ := e
    have hin := hE _ (List.mem_of_getElem? he)
    have hEk : InE n (es.take k) := hE.sub fun e h => List.mem_of_mem_take h
    rw [take_snoc' he]
    by_cases h : RE (es.take k) a c
    · rw [minsE_stay h, (nclo_snoc (es.take k) (a, c)).1 h]
      (first | lia | omega)
    · rw [(nclo_snoc (es.take k) (a, c)).2 h]
      have := minsE_join (a := a) (c := c) hEk hin.1 hin.2 h
      (first | lia | omega)
/-! within one piece -/
def inG (g : List Int) (e : Int × Int) : Bool := g.contains e.1 && g.contains e.2
theorem inG_iff {g : List Int} {e : Int × Int} : inG g e = true ↔ e.1 ∈ g ∧ e.2 ∈ g := by
  unfold inG
  simp
theorem filter_both {α : Type} (l : List α) (p : α → Bool) : (l.filter p).length + (l.filter fun x => !p x).length = l.length := by
  induction l with
  | nil => rfl
  | cons x r ih =>
    rw [List.filter_cons, List.filter_cons, List.length_cons]
    cases h : p x with
    | true =>
      rw [if_pos rfl, if_neg (by simp), List.length_cons]
      (first | lia | omega)
    | false =>
      rw [if_neg (by simp), if_pos (show (!false) = true from rfl), List.length_cons]
      (first | lia | omega)
theorem piece_has {es : PP} {n : Nat} (hE : InE n es) {g : List Int} (hg : g ∈ pcsE es n) : g.length ≤ (es.filter (inG g)).length + 1 := by
  classical
  obtain ⟨r, hr, rfl⟩ := List.mem_map.mp hg
  obtain ⟨r0, r1⟩ := mem_minsE.mp hr
  have hE' : InE n (es.filter (inG (cmpE es n r))) := hE.sub fun e h => (List.mem_filter.mp h).1
  have hc := count_E hE'
  have inside : ∀ y, RE es r y → RE (es.filter (inG (cmpE es n r))) r y := fun y hy => by
    induction hy with
    | refl => exact .refl
    | @step y z hy he ih =>
      have my : y ∈ cmpE es n r := mem_cmpE.mpr ⟨RE.rng hE r0 hy, hy⟩
      have mz : z ∈ cmpE es n r := mem_cmpE.mpr ⟨RE.rng hE r0 (.step hy he), .step hy he⟩
      refine .step ih ?_
      rcases he with he | he
      · exact .inl (List.mem_filter.mpr ⟨he, inG_iff.mpr ⟨my, mz⟩⟩)
      · exact .inr (List.mem_filter.mpr ⟨he, inG_iff.mpr ⟨mz, my⟩⟩)
  have gnd : (cmpE es n r).Nodup := by
    unfold cmpE
    exact (upto_nodup _).filter _
  have gsub : ∀ y ∈ cmpE es n r, y ∈ upto (n : Int) := fun y hy => mem_upto.mpr (mem_cmpE.mp hy).1
  have hmin : ∀ x ∈ minsE (es.filter (inG (cmpE es n r))) n, x ∈ r :: (upto (n : Int)).filter fun y => !decide (y ∈ cmpE es n r) := fun x hx => by
    obtain ⟨x0, x1⟩ := mem_minsE.mp hx
    by_cases hg : x ∈ cmpE es n r
    · have hrx := (mem_cmpE.mp hg).2
      have h1 := x1 r (inside x hrx).symm
      have h2 := r1 x hrx
      have : x = r := by (first | lia | omega)
      rw [this]
      exact List.mem_cons_self
    · refine List.mem_cons_of_mem _ (List.mem_filter.mpr ⟨mem_upto.mpr x0, ?_⟩)
      rw [decide_eq_false hg]
      rfl
  have l1 := nodup_len _ _ ((minsE_sorted (es.filter (inG (cmpE es n r))) n).imp fun h => by (first | lia | omega)) hmin
  rw [List.length_cons] at l1
  have l2 : ((upto (n : Int)).filter fun y => decide (y ∈ cmpE es n r)).length + ((upto (n : Int)).filter fun y => !decide (y ∈ cmpE es n r)).length = n := by
    rw [filter_both, upto_len]
    (first | lia | omega)
  have l3 := nodup_len (cmpE es n r) ((upto (n : Int)).filter fun y => decide (y ∈ cmpE es n r)) gnd fun y hy => List.mem_filter.mpr ⟨gsub y hy, decide_eq_true hy⟩
  (first | lia | omega)
theorem sum_split {α β : Type} (gs : List α) (es : List β) (p : α → β → Bool) (h : ∀ e ∈ es, (gs.filter fun g => p g e).length = 1) : (gs.map fun g => (es.filter (p g)).length).sum = es.length := by
  induction es with
  | nil =>
    have : ∀ gs : List α, (gs.map fun g => (([] : List β).filter (p g)).length).sum = 0 := fun gs => by
      induction gs with
      | nil => rfl
      | cons g r ih => simpa using ih
    simpa using this gs
  | cons e r ih =>
    have ih := ih fun e he => h e (List.mem_cons_of_mem _ he)
    have h1 := h e List.mem_cons_self
    have key : ∀ gs : List α, (gs.map fun g => ((e :: r).filter (p g)).length).sum = (gs.map fun g => (r.filter (p g)).length).sum + (gs.filter fun g => p g e).length := fun gs => by
      induction gs with
      | nil => rfl
      | cons g t ih =>
        rw [List.map_cons, List.sum_cons, ih, List.map_cons, List.sum_cons, List.filter_cons]
        by_cases hp : p g e = true
        · rw [if_pos hp, List.filter_cons (x := g), if_pos hp, List.length_cons, List.length_cons]
          (first | lia | omega)
        · rw [if_neg hp, List.filter_cons (x := g), if_neg hp]
          (first | lia | omega)
    rw [key gs, ih, h1]
    rfl
theorem filter_one {α : Type} {gs : List α} {p : α → Bool} {k : Nat} {g : α} (hk : gs[k]? = some g) (hp : p g = true) (hu : ∀ j g', gs[j]? = some g' → p g' = true → j = k) : (gs.filter p).length = 1 := by
  induction gs generalizing k with
  | nil => simp at hk
  | cons x r ih =>
    cases k with
    | zero =>
      cases hk
      rw [List.filter_cons, if_pos hp]
      have : r.filter p = [] := List.filter_eq_nil_iff.mpr fun y hy hpy => by
        obtain ⟨j, hj, e⟩ := List.mem_iff_getElem.mp hy
        have := hu (j + 1) y (by rw [List.getElem?_cons_succ, List.getElem?_eq_getElem hj, e]) hpy
        (first | lia | omega)
      rw [this]
      rfl
    | succ k =>
      have hx : ¬ p x = true := fun z => by
        have := hu 0 x rfl z
        (first | lia | omega)
      rw [List.filter_cons, if_neg hx]
      exact ih hk fun j g' hj hp' => by
        have := hu (j + 1) g' hj hp'
        (first | lia | omega)
end K06
namespace K06
open PySem L2 XM
/-! plain mathematics: rings -/
theorem dd_keep : ∀ (ns acc : List Int) {x : Int}, x ∈ acc → x ∈ ns.foldl PyProof.Rows.step_dedup acc
  | [], acc, x, h => h
  | n :: r, acc, x, h => by
    rw [List.foldl_cons]
    refine dd_keep r _ ?_
    unfold PyProof.Rows.step_dedup
    split
    · exact h
    · exact List.mem_append_left _ h
theorem dd_mem : ∀ (ns acc : List Int) {x : Int}, x ∈ ns → x ∈ ns.foldl PyProof.Rows.step_dedup acc
  | n :: r, acc, x, h => by
    rw [List.foldl_cons]
    rcases List.mem_cons.mp h with e | h
    · refine dd_keep r _ ?_
      rw [e]
      unfold PyProof.Rows.step_dedup
      split
      · rename_i hc
        simpa using hc
      · simp
    · exact dd_mem r _ h
theorem distinct_eq (ns : List Int) : distinct ns = ns.foldl PyProof.Rows.step_dedup [] := by
  unfold distinct PyProof.Rows.firstMet
  rw [range_getD]
theorem distinct_back {M : List Int} {a : Int} (h : M.Nodup) (ha : a ∈ M) : (distinct (M ++ [a])).length = M.length := by
  have h1 := (distinct_iff M).mpr h
  rw [distinct_eq] at h1 ⊢
  rw [List.foldl_append, List.foldl_cons, List.foldl_nil]
  have hm := dd_mem M [] ha
  have e : PyProof.Rows.step_dedup (M.foldl PyProof.Rows.step_dedup []) a = M.foldl PyProof.Rows.step_dedup [] := by
    rw [PyProof.Rows.step_dedup, if_pos (by simpa using hm)]
  rw [e]
  exact h1
theorem pth_nodup {ps : PP} {bs : List Int} {n : Nat} (hL : ∀ k, k < n → ∀ p ∈ stp ps bs k, 0 ≤ p.2 ∧ p.2 < n) {x y : Int} {tl : List (Int × Int)} (h : Pth (stp ps bs) x tl y) : (0 ≤ x ∧ x < n) → (x :: tl.map (·.2)).Nodup → (tl.map (·.1)).Nodup ∧ ∀ b ∈ tl.map (·.1), b ∈ bs := by
  induction h with
  | nil => exact fun _ _ => ⟨List.nodup_nil, fun b hb => by simp at hb⟩
  | @cons x z y b tl hb hp ih =>
    intro hx hn
    rw [List.map_cons] at hn
    obtain ⟨hx1, hn1⟩ := List.nodup_cons.mp hn
    have hz := hL x.toNat (by (first | lia | omega)) (b, z) hb
    obtain ⟨i1, i2⟩ := ih hz hn1
    obtain ⟨hbm, hor⟩ := mem_stp.mp hb
    have ex : ((x.toNat : Nat) : Int) = x := by (first | lia | omega)
    rw [ex] at hor
    refine ⟨?_, fun c hc => ?_⟩
    · rw [List.map_cons]
      refine List.nodup_cons.mpr ⟨fun hm => ?_, i1⟩
      obtain ⟨⟨b', z'⟩, hbz, e⟩ := List.mem_map.mp hm
      have e : b' = b := e
      subst e
      obtain ⟨i, hi, ei⟩ := List.mem_iff_getElem.mp hbz
      obtain ⟨u, _, hu⟩ := hp.at (i := i) (b := b') (z := z') (by rw [List.getElem?_eq_getElem hi, ei])
      have hz' : z' ∈ tl.map (·.2) := List.mem_map.mpr ⟨(b', z'), hbz, rfl⟩
      have nz : z' ≠ z := fun e => (List.nodup_cons.mp hn1).1 (e ▸ hz')
      have nx : z' ≠ x := fun e => hx1 (List.mem_cons_of_mem _ (e ▸ hz'))
      obtain ⟨_, hor'⟩ := mem_stp.mp hu
      have : z' = (eb ps b').1 ∨ z' = (eb ps b').2 := by
        rcases hor' with ⟨_, h⟩ | ⟨_, h⟩
        · exact .inr h
        · exact .inl h
      rcases hor with ⟨h1, h2⟩ | ⟨h1, h2⟩
      · rcases this with h | h
        · exact nx (h.trans h1)
        · exact nz (h.trans h2.symm)
      · rcases this with h | h
        · exact nz (h.trans h2.symm)
        · exact nx (h.trans h1)
    · rw [List.map_cons] at hc
      rcases List.mem_cons.mp hc with e | hc
      · rw [e]
        exact hbm
      · exact i2 c hc
/-- quarters by which these go round -/
structure RoundW (ps : PP) (fs : List Int) (x : Int) (W : List Int) : Prop where
  len : W.length = fs.length + 1
  first : W[0]? = some x
  step : ∀ (i : Nat) b, fs[i]? = some b → ∃ u z, W[i]? = some u ∧ W[i + 1]? = some z ∧ (eb ps b = (u, z) ∨ eb ps b = (z, u))
  last : W[fs.length]? = some x
  dis : (distinct W).length = fs.length
structure RingOk (ps : PP) (bs fs : List Int) (a : Int) : Prop where
  two : 2 ≤ fs.length
  len : fs.length ≤ 100
  sub : ∀ b ∈ fs, b ∈ bs
  nd : fs.Nodup
  rnd : ∃ W, RoundW ps fs a W
  hd : ∃ b, fs[0]? = some b ∧ ((eb ps b).1 = a ∨ (eb ps b).2 = a)
theorem ring_ok {ps : PP} {bs fs : List Int} {q : Int} (hq : q ≤ 24) (hok : ∀ p ∈ ps, okPair q p = true) (hr : risesB bs ps.length = true) (h : Ring ps bs q fs) : ∃ a, RingOk ps bs fs a := by
  obtain ⟨⟨j, b, tl, hj, hw, rfl⟩⟩ := h
  obtain ⟨hsort, hbs⟩ := risesB_iff.mp hr
  have hnd : bs.Nodup := hsort.imp fun h => by (first | lia | omega)
  have hbm := List.mem_of_getElem? hj
  obtain ⟨b0, b1⟩ := hbs b hbm
  have hl : b.toNat < ps.length := by (first | lia | omega)
  have eeb : eb ps b = ps[b.toNat] := getD_at (List.getElem?_eq_getElem hl)
  have hokp := hok _ (List.getElem_mem hl)
  rw [← eeb] at hokp
  unfold okPair at hokp
  simp only [Bool.and_eq_true, decide_eq_true_eq] at hokp
  obtain ⟨ha, hc, hac⟩ := hokp
  have hac : (eb ps b).1 ≠ (eb ps b).2 := by simpa using hac
  have hbt : ∀ b ∈ bs.take j, 0 ≤ b ∧ b < ps.length := fun b hb => hbs b (List.mem_of_mem_take hb)
  have S : Sym (stp ps (bs.take j)) q.toNat := stp_sym hok hbt
  obtain ⟨p1, p2⟩ := pth_nodup S.rng hw.pth (by (first | lia | omega)) hw.nd
  have hrng := hw.pth.rng S.rng (by (first | lia | omega))
  generalize ea : (eb ps b).1 = a at *
  generalize ec : (eb ps b).2 = c at *
  have eb' : eb ps b = (a, c) := by rw [← ea, ← ec]
  have htl : 1 ≤ tl.length := by
    cases tl with
    | nil =>
      have := hw.pth.last
      exact absurd (Option.some.inj this) hac
    | cons _ _ => simp
  have hlt := hw.lt
  have hlen : (tl.map (·.1) ++ [b]).length = tl.length + 1 := by simp
  have hstep : ∀ (i : Nat) b', (tl.map (·.1) ++ [b])[i]? = some b' → ∃ u z, ((a :: tl.map (·.2)) ++ [a])[i]? = some u ∧ ((a :: tl.map (·.2)) ++ [a])[i + 1]? = some z ∧ (eb ps b' = (u, z) ∨ eb ps b' = (z, u)) := fun i b' hi => by
    by_cases hil : i < tl.length
    · rw [List.getElem?_append_left (by simpa using hil), List.getElem?_map] at hi
      obtain ⟨⟨b2, z⟩, hbz, rfl⟩ := Option.map_eq_some_iff.mp hi
      obtain ⟨u, hu, hs⟩ := hw.pth.at hbz
      have hu0 := hrng u (List.mem_of_getElem? hu)
      have eu : ((u.toNat : Nat) : Int) = u := by (first | lia | omega)
      obtain ⟨_, hor⟩ := mem_stp.mp hs
      rw [eu] at hor
      refine ⟨u, z, ?_, ?_, ?_⟩
      · rw [List.getElem?_append_left (by simp; (first | lia | omega))]
        exact hu
      · rw [List.getElem?_append_left (by simp; (first | lia | omega)), List.getElem?_cons_succ, List.getElem?_map, hbz]
        rfl
      · rcases hor with ⟨h1, h2⟩ | ⟨h1, h2⟩
        · exact .inl (by rw [← h1, h2])
        · exact .inr (by rw [← h1, h2])
    · have hie : i = tl.length := by
        have := (List.getElem?_eq_some_iff.mp hi).1
        rw [hlen] at this
        (first | lia | omega)
      subst hie
      have e : (tl.map (·.1) ++ [b])[tl.length]? = some b := by
        rw [List.getElem?_append_right (by simp)]
        simp
      rw [e] at hi
      cases hi
      refine ⟨c, a, ?_, ?_, .inr eb'⟩
      · rw [List.getElem?_append_left (by simp)]
        exact hw.pth.last
      · rw [List.getElem?_append_right (by simp)]
        simp
  refine ⟨a, by (first | lia | omega), by (first | lia | omega), fun b' hb' => ?_, ?_, ⟨(a :: tl.map (·.2)) ++ [a], by simp, rfl, hstep, ?_, ?_⟩, ?_⟩
  · rcases List.mem_append.mp hb' with h | h
    · exact List.mem_of_mem_take (p2 b' h)
    · rw [List.mem_singleton] at h
      rw [h]
      exact hbm
  · refine List.nodup_append.mpr ⟨p1, by simp, fun x hx y hy e => ?_⟩
    rw [List.mem_singleton] at hy
    subst hy
    subst e
    exact nodup_take hnd hj (p2 x hx)
  · rw [hlen, List.getElem?_append_right (by simp)]
    simp
  · rw [distinct_back hw.nd (by simp)]
    simp
  · obtain ⟨b', hb'⟩ : ∃ b', (tl.map (·.1) ++ [b])[0]? = some b' := ⟨_, List.getElem?_eq_getElem (by (first | lia | omega))⟩
    refine ⟨b', hb', ?_⟩
    obtain ⟨u, z, h1, _, h3⟩ := hstep 0 b' hb'
    have eu : u = a := (Option.some.inj h1).symm
    rcases h3 with h3 | h3
    · exact .inl (by rw [h3, eu])
    · exact .inr (by rw [h3, eu])
/-! plain mathematics: what one more, one less does -/
theorem cloE_iff {ps : PP} {bs : List Int} {j : Nat} : CloE (bs.map (eb ps)) j ↔ Clo ps bs j := by
  constructor
  · rintro ⟨e, he, h⟩
    rw [List.getElem?_map] at he
    obtain ⟨b, hb, rfl⟩ := Option.map_eq_some_iff.mp he
    rw [← List.map_take] at h
    exact ⟨b, hb, h⟩
  · rintro ⟨b, hb, h⟩
    rw [List.map_take] at h
    exact ⟨eb ps b, by rw [List.getElem?_map, hb]; rfl, h⟩
def woB (bs : List Int) (b : Int) : List Int := bs.filter fun x => !decide (x = b)
theorem mem_wo {bs : List Int} {b x : Int} : x ∈ woB bs b ↔ x ∈ bs ∧ x ≠ b := by
  unfold woB
  rw [List.mem_filter]
  simp
theorem wo_len : ∀ {bs : List Int} {b : Int}, bs.Nodup → b ∈ bs → (woB bs b).length + 1 = bs.length
  | x :: r, b, hn, hb => by
    obtain ⟨h1, h2⟩ := List.nodup_cons.mp hn
    unfold woB
    by_cases e : x = b
    · subst e
      rw [List.filter_cons, if_neg (by simp)]
      have : r.filter (fun y => !decide (y = x)) = r := List.filter_eq_self.mpr fun y hy => by
        have : y ≠ x := fun z => h1 (z ▸ hy)
        simp [this]
      rw [this]
      rfl
    · rw [List.filter_cons, if_pos (by simp [e])]
      have hb' : b ∈ r := by
        rcases List.mem_cons.mp hb with z | z
        · exact absurd z.symm e
        · exact z
      have ih := wo_len h2 hb'
      unfold woB at ih
      rw [List.length_cons, List.length_cons]
      (first | lia | omega)
/-- a bridge whose ends are joined without it may go -/
theorem re_wo {ps : PP} {bs : List Int} {b : Int} (h : RE ((woB bs b).map (eb ps)) (eb ps b).1 (eb ps b).2) {x y : Int} : RE ((woB bs b).map (eb ps)) x y ↔ RE (bs.map (eb ps)) x y := by
  constructor
  · refine fun z => z.mono fun p hp => ?_
    obtain ⟨c, hc, rfl⟩ := List.mem_map.mp hp
    exact List.mem_map.mpr ⟨c, (mem_wo.mp hc).1, rfl⟩
  · refine re_sub fun p hp => ?_
    obtain ⟨c, hc, rfl⟩ := List.mem_map.mp hp
    by_cases e : c = b
    · rw [e]
      exact h
    · exact .step .refl (.inl (List.mem_map.mpr ⟨c, mem_wo.mpr ⟨hc, e⟩, rfl⟩))
/-- round a ring without one of its bridges -/
theorem ring_wo {ps : PP} {bs fs W : List Int} {a : Int} (hW : RoundW ps fs a W) (hs : ∀ b ∈ fs, b ∈ bs) (hn : fs.Nodup) {b : Int} (hb : b ∈ fs) : RE ((woB bs b).map (eb ps)) (eb ps b).1 (eb ps b).2 := by
  obtain ⟨i, hi, ei⟩ := List.mem_iff_getElem.mp hb
  have hib : fs[i]? = some b := by rw [List.getElem?_eq_getElem hi, ei]
  have hop : ∀ (k : Nat), k < fs.length → k ≠ i → ∃ u z, W[k]? = some u ∧ W[k + 1]? = some z ∧ RE ((woB bs b).map (eb ps)) u z := fun k hk hki => by
    have hkf : fs[k]? = some fs[k] := List.getElem?_eq_getElem hk
    obtain ⟨u, z, h1, h2, h3⟩ := hW.step k _ hkf
    have hne : fs[k] ≠ b := fun e => hki (nodup_ix hn hkf (by rw [e]; exact hib))
    have hm : eb ps fs[k] ∈ (woB bs b).map (eb ps) := List.mem_map.mpr ⟨_, mem_wo.mpr ⟨hs _ (List.getElem_mem hk), hne⟩, rfl⟩
    refine ⟨u, z, h1, h2, ?_⟩
    rcases h3 with h3 | h3
    · exact .step .refl (.inl (by rw [← h3]; exact hm))
    · exact .step .refl (.inr (by rw [← h3]; exact hm))
  have fore : ∀ k, k ≤ i → ∃ u, W[k]? = some u ∧ RE ((woB bs b).map (eb ps)) a u := fun k => by
    induction k with
    | zero => exact fun _ => ⟨a, hW.first, .refl⟩
    | succ k ih =>
      intro hk
      obtain ⟨u, h1, h2⟩ := ih (by (first | lia | omega))
      obtain ⟨u', z, h3, h4, h5⟩ := hop k (by (first | lia | omega)) (by (first | lia | omega))
      rw [h1] at h3
      cases h3
      exact ⟨z, h4, h2.trans h5⟩
  have back : ∀ m, i + 1 + m ≤ fs.length → ∃ v u, W[i + 1]? = some v ∧ W[i + 1 + m]? = some u ∧ RE ((woB bs b).map (eb ps)) v u := fun m => by
    induction m with
    | zero =>
      intro hm
      obtain ⟨v, hv⟩ : ∃ v, W[i + 1]? = some v := ⟨_, List.getElem?_eq_getElem (by rw [hW.len]; (first | lia | omega))⟩
      exact ⟨v, v, hv, hv, .refl⟩
    | succ m ih =>
      intro hm
      obtain ⟨v, u, h1, h2, h3⟩ := ih (by (first | lia | omega))
      obtain ⟨u', z, h4, h5, h6⟩ := hop (i + 1 + m) (by (first | lia | omega)) (by (first | lia | omega))
      rw [h2] at h4
      cases h4
      exact ⟨v, z, h1, h5, h3.trans h6⟩
  obtain ⟨u, hu, hau⟩ := fore i (Nat.le_refl _)
  obtain ⟨v, e, hv, he, hve⟩ := back (fs.length - (i + 1)) (by (first | lia | omega))
  rw [show i + 1 + (fs.length - (i + 1)) = fs.length by (first | lia | omega), hW.last] at he
  cases he
  obtain ⟨u', z, h1, h2, h3⟩ := hW.step i b hib
  rw [hu] at h1
  cases h1
  rw [hv] at h2
  cases h2
  have huv : RE ((woB bs b).map (eb ps)) u v := hau.symm.trans hve.symm
  rcases h3 with h3 | h3
  · rw [h3]
    exact huv
  · rw [h3]
    exact huv.symm
/-- without rings one less closes none -/
theorem clo_wo {ps : PP} {bs : List Int} {b : Int} (hs : bs.Pairwise (· < ·)) (h : ∀ j, ¬ Clo ps bs j) : ∀ j, ¬ Clo ps (woB bs b) j := by
  rintro j ⟨c, hc, hre⟩
  have hcm := mem_wo.mp (List.mem_of_getElem? hc)
  obtain ⟨k, hk, ek⟩ := List.mem_iff_getElem.mp hcm.1
  refine h k ⟨c, by rw [List.getElem?_eq_getElem hk, ek], hre.mono fun p hp => ?_⟩
  obtain ⟨x, hx, rfl⟩ := List.mem_map.mp hp
  refine List.mem_map.mpr ⟨x, ?_, rfl⟩
  have hsw : (woB bs b).Pairwise (· < ·) := hs.filter _
  obtain ⟨hjl, ej⟩ := List.getElem?_eq_some_iff.mp hc
  obtain ⟨m, hm, em⟩ := List.mem_iff_getElem.mp hx
  rw [List.length_take] at hm
  have hxc : x < c := by
    have := List.pairwise_iff_getElem.mp hsw m j (by (first | lia | omega)) hjl (by (first | lia | omega))
    rw [List.getElem_take] at em
    rw [em, ej] at this
    exact this
  have hxb := (mem_wo.mp (List.mem_of_mem_take hx)).1
  obtain ⟨m', hm', em'⟩ := List.mem_iff_getElem.mp hxb
  have hlt : m' < k := by
    refine Classical.byContradiction fun z => ?_
    rcases Nat.lt_or_eq_of_le (Nat.not_lt.mp z) with z | z
    · have := List.pairwise_iff_getElem.mp hs k m' hk hm' z
      rw [ek, em'] at this
      (first | lia | omega)
    · subst z
      rw [ek] at em'
      (first | lia | omega)
  rw [← em']
  exact List.mem_of_getElem? (i := m') (by rw [List.getElem?_take, if_pos hlt, List.getElem?_eq_getElem hm'])
/-- two bridges with the same ends close a ring -/
theorem two_clo {ps : PP} {bs : List Int} {b c : Int} (hs : bs.Pairwise (· < ·)) (hb : b ∈ bs) (hc : c ∈ bs) (hne : b ≠ c) (he : eb ps b = eb ps c ∨ eb ps b = ((eb ps c).2, (eb ps c).1)) : ∃ j, Clo ps bs j := by
  have key : ∀ b c : Int, b ∈ bs → c ∈ bs → b < c → (eb ps b = eb ps c ∨ eb ps b = ((eb ps c).2, (eb ps c).1)) → ∃ j, Clo ps bs j := fun b c hb hc hlt he => by
    obtain ⟨k, hk, ek⟩ := List.mem_iff_getElem.mp hc
    obtain ⟨m, hm, em⟩ := List.mem_iff_getElem.mp hb
    have hmk : m < k := by
      refine Classical.byContradiction fun z => ?_
      rcases Nat.lt_or_eq_of_le (Nat.not_lt.mp z) with z | z
      · have := List.pairwise_iff_getElem.mp hs k m hk hm z
        rw [ek, em] at this
        (first | lia | omega)
      · subst z
        rw [ek] at em
        (first | lia | omega)
    refine ⟨k, c, by rw [List.getElem?_eq_getElem hk, ek], .step .refl ?_⟩
    have hin : eb ps b ∈ (bs.take k).map (eb ps) := List.mem_map.mpr ⟨b, List.mem_of_getElem? (i := m) (by rw [List.getElem?_take, if_pos hmk, List.getElem?_eq_getElem hm, em]), rfl⟩
    rcases he with he | he
    · rw [he] at hin
      exact .inl hin
    · rw [he] at hin
      exact .inr hin
  rcases Int.lt_or_gt_of_ne hne with h | h
  · exact key b c hb hc h he
  · refine key c b hc hb h ?_
    rcases he with he | he
    · exact .inl he.symm
    · exact .inr (by rw [he])
/-- without rings the way between a bridge's ends is that bridge alone -/
theorem way_one {ps : PP} {bs : List Int} {q b : Int} {tl : List (Int × Int)} (hs : bs.Pairwise (· < ·)) (hok : okPair q (eb ps b) = true) (hb : b ∈ bs) (h : ∀ j, ¬ Clo ps bs j) (hw : Way (stp ps bs) q.toNat (eb ps b).1 (eb ps b).2 tl) : tl.map (·.1) = [b] := by
  unfold okPair at hok
  simp only [Bool.and_eq_true, decide_eq_true_eq] at hok
  obtain ⟨ha, hc, hac⟩ := hok
  have hac : (eb ps b).1 ≠ (eb ps b).2 := by simpa using hac
  have h1 : RLn (stp ps bs) (eb ps b).1 1 (eb ps b).2 := .step .refl (mem_stp.mpr ⟨hb, .inl ⟨by (first | lia | omega), rfl⟩⟩)
  have hle := hw.least 1 h1
  match tl, hw, hle with
  | [], hw, _ =>
    have := hw.pth.last
    exact absurd (Option.some.inj this) hac
  | [(c, z)], hw, _ =>
    obtain ⟨u, hu, hst⟩ := hw.pth.at (i := 0) rfl
    cases hu
    have hz : z = (eb ps b).2 := Option.some.inj hw.pth.last
    obtain ⟨hcm, hor⟩ := mem_stp.mp hst
    by_cases e : b = c
    · rw [e]
      rfl
    · exfalso
      have : ∃ j, Clo ps bs j := by
        refine two_clo hs hb hcm e ?_
        have ea : (((eb ps b).1.toNat : Nat) : Int) = (eb ps b).1 := by (first | lia | omega)
        rw [ea] at hor
        rcases hor with ⟨x1, x2⟩ | ⟨x1, x2⟩
        · exact .inl (Prod.ext x1.symm (by rw [← hz, x2]))
        · exact .inr (Prod.ext x1.symm (by rw [← hz, x2]))
      obtain ⟨j, hj⟩ := this
      exact h j hj
  | _ :: _ :: _, _, hle =>
    simp at hle
end K06
namespace K06
open PySem L2 XM
/-! plain mathematics: each bridge once -/
theorem mem_filtR {n : Nat} {p : Nat → Bool} {x : Int} : x ∈ filtR n p ↔ ∃ k : Nat, k < n ∧ p k = true ∧ x = (k : Int) := by
  unfold filtR
  rw [List.mem_map]
  constructor
  · rintro ⟨k, hk, rfl⟩
    obtain ⟨h1, h2⟩ := List.mem_filter.mp hk
    exact ⟨k, List.mem_range.mp h1, h2, rfl⟩
  · rintro ⟨k, h1, h2, rfl⟩
    exact ⟨k, List.mem_filter.mpr ⟨List.mem_range.mpr h1, h2⟩, rfl⟩
theorem filtR_nodup (n : Nat) (p : Nat → Bool) : (filtR n p).Nodup := (risesB_iff.mp (filtR_rises n p)).1.imp fun h => by (first | lia | omega)
def toldL (nss : List (List Int)) (ps : PP) (i : Nat) : List Int := filtR ps.length (fun k => !inOne nss (ps.getD k (0, 0))) ++ ((nss.take i).map fun g => filtR ps.length (withP g ps)).flatten
theorem told_mem {nss : List (List Int)} {ps : PP} {x : Int} : x ∈ toldL nss ps nss.length ↔ 0 ≤ x ∧ x < ps.length := by
  unfold toldL
  rw [List.take_length, List.mem_append, List.mem_flatten]
  constructor
  · rintro (h | ⟨l, hl, hx⟩)
    · obtain ⟨k, hk, _, rfl⟩ := mem_filtR.mp h
      (first | lia | omega)
    · obtain ⟨g, _, rfl⟩ := List.mem_map.mp hl
      obtain ⟨k, hk, _, rfl⟩ := mem_filtR.mp hx
      (first | lia | omega)
  · rintro ⟨h0, h1⟩
    obtain ⟨k, rfl⟩ : ∃ k : Nat, x = (k : Int) := ⟨x.toNat, by (first | lia | omega)⟩
    have hk : k < ps.length := by (first | lia | omega)
    cases ho : inOne nss (ps.getD k (0, 0)) with
    | false => exact .inl (mem_filtR.mpr ⟨k, hk, by rw [ho]; rfl, rfl⟩)
    | true =>
      unfold inOne at ho
      obtain ⟨g, hg, hp⟩ := List.any_eq_true.mp ho
      exact .inr ⟨_, List.mem_map.mpr ⟨g, hg, rfl⟩, mem_filtR.mpr ⟨k, hk, hp, rfl⟩⟩
theorem told_nodup {nss : List (List Int)} {ps : PP} (hn : nss.flatten.Nodup) : (toldL nss ps nss.length).Nodup := by
  unfold toldL
  rw [List.take_length]
  refine List.nodup_append.mpr ⟨filtR_nodup _ _, ?_, fun x hx y hy e => ?_⟩
  · unfold List.Nodup
    rw [List.pairwise_flatten]
    constructor
    · intro l hl
      obtain ⟨g, _, rfl⟩ := List.mem_map.mp hl
      exact filtR_nodup _ _
    · rw [List.pairwise_map]
      unfold List.Nodup at hn
      refine (List.pairwise_flatten.mp hn).2.imp fun {g g'} h x hx y hy e => ?_
      subst e
      obtain ⟨k, _, h1, rfl⟩ := mem_filtR.mp hx
      obtain ⟨k', _, h2, e⟩ := mem_filtR.mp hy
      have : k = k' := by (first | lia | omega)
      subst this
      unfold withP at h1 h2
      simp only [Bool.and_eq_true, List.contains_iff_mem] at h1 h2
      exact h _ h1.1 _ h2.1 rfl
  · subst e
    obtain ⟨k, _, h1, rfl⟩ := mem_filtR.mp hx
    obtain ⟨l, hl, hx'⟩ := List.mem_flatten.mp hy
    obtain ⟨g, hg, rfl⟩ := List.mem_map.mp hl
    obtain ⟨k', _, h2, e⟩ := mem_filtR.mp hx'
    have : k = k' := by (first | lia | omega)
    subst this
    have : inOne nss (ps.getD k (0, 0)) = true := List.any_eq_true.mpr ⟨g, hg, h2⟩
    rw [this] at h1
    cases h1
theorem told_pre (nss : List (List Int)) (ps : PP) (i : Nat) : (toldL nss ps i).Sublist (toldL nss ps nss.length) := by
  have e : nss.map (fun g => filtR ps.length (withP g ps)) = (nss.take i).map (fun g => filtR ps.length (withP g ps)) ++ (nss.drop i).map (fun g => filtR ps.length (withP g ps)) := by rw [← List.map_append, List.take_append_drop]
  unfold toldL
  rw [List.take_length, e, List.flatten_append, ← List.append_assoc]
  exact List.sublist_append_left _ _
theorem told_sorted {nss : List (List Int)} {ps : PP} (hn : nss.flatten.Nodup) {l : List Int} (hp : l.Perm (toldL nss ps nss.length)) (hs : l.Pairwise (· ≤ ·)) : l = (List.range ps.length).map fun k => ((k : Nat) : Int) := by
  have hl : l.Nodup := hp.nodup_iff.mpr (told_nodup hn)
  have := upto_sorted (ps.length : Int)
  unfold upto at this
  rw [show ((ps.length : Int)).toNat = ps.length by (first | lia | omega)] at this
  refine sorted_ext ((List.pairwise_and_iff.mpr ⟨hs, hl⟩).imp fun h => by (first | lia | omega)) this fun x => ?_
  rw [hp.mem_iff, told_mem, ← mem_upto (q := (ps.length : Int))]
  unfold upto
  rw [show ((ps.length : Int)).toNat = ps.length by (first | lia | omega)]
def hereG (ps : PP) (bs g : List Int) : Nat := (bs.filter fun b => inG g (eb ps b)).length
def cntG (ps : PP) (bs : List Int) (gs : List (List Int)) : Int := (gs.map fun g => (hereG ps bs g : Int) - g.length + 1).sum
theorem within_has {ps : PP} {g : List Int} {b : Int} (h : 0 ≤ b ∧ b < ps.length) : (filtR ps.length (withP g ps)).contains b = inG g (eb ps b) := by
  rw [Bool.eq_iff_iff, List.contains_iff_mem, mem_filtR]
  constructor
  · rintro ⟨k, _, h2, rfl⟩
    exact h2
  · intro h2
    refine ⟨b.toNat, by (first | lia | omega), h2, by (first | lia | omega)⟩
section
variable {P : Program} {w : World} {K : PySem.W.Frag} {mg : Str → Option Value} {base : Heap} {CE CS CQ CT : Addr}

/-! _law_each_once -/
inductive spEachI (CT : Addr) (vs : List V) (H : Hp) (Q : VK) (E : XK) : Prop
  | mk (p l2 ls fo : Addr) (q : Int) (ys xs : List V) (ps : PP) (bs : List Int) (nss : List (List Int)) : (vs = [.ref p, .ref ls, .ref fo]) → (TownAt CT H p l2 q ys) → (PV H ys ps) → (fits q ps = true) → (LI H ls bs) → (H fo = some (.lst xs)) → (LS H xs nss) → (isPart nss q = true) → (nss.length ≤ 24) → (nss.flatten.length ≤ 24) → ((∀ g ∈ nss, someQ g q = true ∧ g.length ≤ 24)) → ((∀ b ∈ bs, (0 ≤ b ∧ b < ps.length) ∧ inOne nss (eb ps b) = true)) → (∀ H', Same H H' → Q (.bl true) H') → spEachI CT vs H Q E
def spEach (CT : Addr) : Sp := fun vs H Q E => spEachI CT vs H Q E
theorem scEach : FnScope ["town", "some", "found", "apart", "bridge", "told", "piece"] ["town", "some", "found"] (defScope sEach) := ⟨rfl, rfl, rfl, by decide +kernel, rfl, by decide +kernel, by decide +kernel⟩
theorem ok_each {f f1 f2 : Addr} {fd fd1 fd2 : FuncData} (T : Txt K mg CE CS CQ CT) (F : Fun K "_law_each_once" "_law_each_once" sEach f fd)
    (G1 : FnOk P w K mg base (CXE P w) 5 f1 fd1 ["town", "parting"] (spBetw CT CE)) (b1 : Binds K fd1 ["town", "parting"] []) (m1 : mg "bridges_between" = some (.ref f1)) (k1 : PySem.W.keepIn K (.ref f1) = true)
    (G2 : FnOk P w K mg base (CXE P w) 4 f2 fd2 ["town", "quarters"] (spWithin CT CQ)) (b2 : Binds K fd2 ["town", "quarters"] []) (m2 : mg "bridges_within" = some (.ref f2)) (k2 : PySem.W.keepIn K (.ref f2) = true) :
    FnOk P w K mg base CX0 6 f fd ["town", "some", "found"] (spEach CT) := by
  refine F.ok scEach (fun vs H Q E h => ?_) (fun cdv A outer s H vs Q E hr h => ?_)
  · obtain ⟨p, l2, ls, fo, q, ys, xs, ps, bs, nss, rfl, _⟩ := h
    rfl
  · obtain ⟨p, l2, ls, fo, q, ys, xs, ps, bs, nss, rfl, ht, hpv, hft, hls, hfo, hLS, hpart, hn24, hf24, hgs, hbs, kQ⟩ := h
    have hu := hr.units
    have r4 := hr.mono (j := 4) (by decide)
    have ndP : ((["piece"] : List Str) ++ ([] : List Str)).Nodup := by decide +kernel
    refine ⟨_, pss_cons (ps_set (i := 3) scEach.nd rfl (Or.inl rfl) (pe_call G1 hr (by rfl) m1 k1 b1 .nil passE0 (pa_cons (pv 0) (pa_cons (pe_comp (own := ["piece"]) (caps := []) (cs := []) (sc := defScope sEach) ⟨rfl, rfl, by decide +kernel, by decide +kernel, by decide +kernel, by decide +kernel, rfl⟩ rfl
          (pi_list (pv 2)) (fun _ _ _ _ _ => pg_name (i := 0) ndP rfl (Or.inl rfl) (.inr rfl)) (fun _ _ _ _ _ => pf_nil) (fun _ _ _ _ _ => pe_callTy c_list (by rfl) T.list bt_list (pa_cons (pv 0) pa_nil))) pa_nil))))
      (pss_cons (ps_for PassesOwn.never rfl (pi_list (pv 1)) (pg_name (i := 4) scEach.nd rfl (Or.inl rfl)) (pss_one (ps_if (pt_cmpR op_in_seq (pv 4) (pv 3) rfl) (pss_one (ps_ret pe_bl)) pss_nil)))
      (pss_cons (ps_set (i := 5) scEach.nd rfl (Or.inl rfl) (pe_callTy c_list (by rfl) T.list bt_list (pa_cons (pv 3) pa_nil)))
      (pss_cons (ps_for PassesOwn.never rfl (pi_list (pv 2)) (pg_name (i := 6) scEach.nd rfl (Or.inl rfl))
        (pss_one (ps_set (i := 5) scEach.nd rfl (Or.inl rfl) (pe_op op_cat (pv 5) (pe_call G2 r4 (by rfl) m2 k2 b2 .nil passE0 (pa_cons (pv 0) (pa_cons (pe_callTy c_list (by rfl) T.list bt_list (pa_cons (pv 6) pa_nil)) pa_nil)))))))
      (pss_one (ps_ret (pe_cmpR (op_eqD hu) (pe_callB c_sortI (by rfl) T.sorted boot_sorted (pa_cons (pv 5) pa_nil)) (pe_listRange rfl (by rfl) T.list (by rfl) T.range (pe_callB c_len (by rfl) T.len PySem.boot_len (pa_cons (pe_fld (pv 0) rfl) pa_nil))) (nomark _))))))), ?_⟩
    try dsimp only [cx_of, cx_nox, cx_comp]
    obtain ⟨⟨hq1, hq2⟩, h60, hok⟩ := fits_iff hft
    have hlen := hLS.length
    have hpl := hpv.length
    have pok := part_ok hpart
    -- the pieces, copied
    refine ⟨_, rfl, _, rfl, fo, rfl, ⟨_, SqL.of hfo⟩, fun hh hhn => ?_⟩
    refine comp_gen (n := nss.length) (fun i zs H2 => Same H H2 ∧ H2 hh = some (.lst zs) ∧ All2 (fun x g => ∃ a, x = V.ref a ∧ LI H2 a g ∧ a ≠ hh) zs (nss.take i)) ⟨Same.rfl'.new hhn, upd_same, .nil⟩ (fun i zs H2 hi hv => ?_) (fun i zs H2 hi hv => ?_) (fun zs H1 hv => ?_)
    · have := hv.2.2.length
      rw [List.length_take] at this
      exact small1000 (by (first | lia | omega))
    · obtain ⟨sm, hy, hA⟩ := hv
      obtain ⟨x, hxi⟩ : ∃ x, xs[i]? = some x := ⟨_, List.getElem?_eq_getElem (by (first | lia | omega))⟩
      obtain ⟨g, hg, a, rfl, hag⟩ := hLS.get hxi
      refine ⟨⟨_, _, SqL.of (sm _ _ hfo), hxi⟩, fun K1 k1 x H' y => ?_⟩
      obtain ⟨rfl, e⟩ := y
      have ex := e _ (SqL.of (sm _ _ hfo))
      rw [hxi] at ex
      cases ex
      refine ⟨rfl, _, rfl, a, _, rfl, .inl (SqL.of (sm _ _ hag)), fun l hl => k1 _ _ ((Same.rfl'.new hl) _ _ hy) ⟨?_, upd_same, ?_⟩⟩
      · exact (sm.tr (Same.rfl'.new hl)).new hhn
      · have nl : l ≠ hh := Ne.symm (ne_of_none hy hl)
        rw [take_snoc' hg]
        have last : LI (upd (upd H' l (.lst (g.map V.int))) hh (.lst (zs ++ [V.ref l]))) l g := by
          rw [LI, upd_ne nl, upd_same]
        refine All2.append (hA.imp fun x g' ⟨b, eb', hb, nb⟩ => ⟨b, eb', ?_, nb⟩) (.cons ⟨l, rfl, last, nl⟩ .nil)
        rw [LI, upd_ne nb]
        exact (Same.rfl'.new hl) _ _ hb
    obtain ⟨s1, hhd, hA⟩ := hv
    rw [List.take_length] at hA
    have hLh : LS H1 zs nss := hA.imp fun x g ⟨a, e, q, _⟩ => ⟨a, e, q⟩
    refine ⟨⟨_, SqL.of (s1 _ _ hfo), by (first | lia | omega)⟩, ?_⟩
    refine ⟨p, l2, q, ys, ps, hh, zs, nss, rfl, ht.same s1, hpv.same s1, hft, hhd, hLh, by (first | lia | omega), by (first | lia | omega), fun _ H2 ap s2 _ hap => ?_, fun z => (by rw [hpart] at z; cases z)⟩
    rw [betw_eq pok hok] at hap
    have s12 := s1.tr s2
    -- for bridge in some
    refine ⟨_, rfl, ls, rfl, ⟨_, SqL.of (s12 _ _ hls)⟩, for_list (K := K) (a := ls) (xs := bs.map V.int) (fun j σ H' => H' = H2 ∧ ∃ u, σ = [some (.ref p), some (.ref ls), some (.ref fo), some (.ref ap), u, none, none])
      ⟨rfl, _, rfl⟩ (fun j σ H' _ ⟨e, _⟩ => by rw [e]; exact SqL.of (s12 _ _ hls)) ?_ ?_⟩
    · rintro j x σ H' hj ⟨rfl, u, rfl⟩
      rw [List.getElem?_map] at hj
      obtain ⟨b, hb, rfl⟩ := Option.map_eq_some_iff.mp hj
      obtain ⟨hb0, hb1⟩ := hbs b (List.mem_of_getElem? hb)
      refine ⟨_, rfl, _, rfl, ap, _, rfl, .inl (SqL.of hap), rfl, flat_ints _, _, rfl, ?_⟩
      have e1 : (filtR ps.length (fun k => !inOne nss (ps.getD k (0, 0)))).contains b = false := by
        refine Bool.eq_false_iff.mpr fun z => ?_
        obtain ⟨k, _, h2, rfl⟩ := mem_filtR.mp (List.contains_iff_mem.mp z)
        have : eb ps (k : Int) = ps.getD k (0, 0) := rfl
        rw [← this, hb1] at h2
        cases h2
      rw [show (if false = true then !inV (V.int b) ((filtR ps.length (fun k => !inOne nss (ps.getD k (0, 0)))).map V.int) else inV (V.int b) ((filtR ps.length (fun k => !inOne nss (ps.getD k (0, 0)))).map V.int)) = false from by rw [if_neg Bool.false_ne_true, inV_ints, e1]]
      exact iteF ⟨rfl, _, rfl⟩
    rintro σ2 H2' ⟨rfl, ub, rfl⟩
    -- told
    refine ⟨_, rfl, ap, _, rfl, .inl (SqL.of hap), fun t0 ht0 => ?_⟩
    have s3 := s12.tr (Same.rfl'.new (o := .lst ((filtR ps.length (fun k => !inOne nss (ps.getD k (0, 0)))).map V.int)) ht0)
    have tl60 : ∀ i, i ≤ nss.length → (toldL nss ps i).length ≤ 60 := fun i hi => by
      have h1 : (toldL nss ps i).Nodup := (told_nodup (ps := ps) pok.nd).sublist (told_pre nss ps i)
      have h2 := nodup_len _ (upto (ps.length : Int)) h1 fun x hx => mem_upto.mpr (told_mem (nss := nss).mp ((told_pre nss ps i).subset hx))
      rw [upto_len] at h2
      (first | lia | omega)
    refine ⟨_, rfl, fo, rfl, ⟨_, SqL.of (s3 _ _ hfo)⟩, for_list (K := K) (a := fo) (xs := xs) (fun i σ H' => (∃ t, Same H H' ∧ LI H' t (toldL nss ps i) ∧ ∃ u, σ = [some (.ref p), some (.ref ls), some (.ref fo), some (.ref ap), ub, some (.ref t), u]))
      ⟨t0, s3, by rw [LI, upd_same]; unfold toldL; simp, _, rfl⟩ (fun i σ H' _ ⟨_, e, _⟩ => SqL.of (e _ _ hfo)) ?_ ?_⟩
    · rintro i x σ H4 hi ⟨t, s4, htl, u, rfl⟩
      obtain ⟨g, hg, a, rfl, hag⟩ := hLS.get hi
      have hil : i < nss.length := (List.getElem?_eq_some_iff.mp hg).1
      obtain ⟨hsq, hgl⟩ := hgs g (List.mem_of_getElem? hg)
      refine ⟨_, rfl, _, rfl, _, rfl, a, _, rfl, .inl (SqL.of (s4 _ _ hag)), fun lc hlc => ?_⟩
      have t1 : Same H4 (upd H4 lc (.lst (g.map V.int))) := Same.rfl'.new hlc
      have s41 := s4.tr t1
      refine ⟨p, l2, q, ys, ps, lc, g, rfl, ht.same s41, hpv.same s41, hft, upd_same, by (first | lia | omega), fun _ H5 w s5 _ hw => ?_, fun z => (by rw [hsq] at z; cases z)⟩
      have h5 := tl60 (i + 1) hil
      have e5 : toldL nss ps (i + 1) = toldL nss ps i ++ filtR ps.length (withP g ps) := by
        unfold toldL
        rw [take_snoc' hg, List.map_append, List.flatten_append, List.append_assoc]
        simp
      rw [e5, List.length_append] at h5
      refine ⟨t, w, _, _, rfl, rfl, (t1.tr s5) _ _ htl, hw, by rw [List.length_map, List.length_map]; exact Nat.le_of_lt (small1000 (by (first | lia | omega))), fun p2 hp2 => ⟨p2, (s41.tr s5).tr (Same.rfl'.new hp2), ?_, _, rfl⟩⟩
      rw [LI, upd_same, e5, List.map_append]
    · rintro σ H4 ⟨t, s4, htl, u, rfl⟩
      rw [hlen] at htl
      obtain ⟨dx, htw⟩ := ht.1
      have hl60 := tl60 nss.length (Nat.le_refl _)
      refine ⟨_, rfl, t, _, rfl, SqL.of htl, by (first | lia | omega), fun d ns' hd hperm hsrt => ?_⟩
      have t1 : Same H4 (upd H4 d (.lst (ns'.map V.int))) := Same.rfl'.new hd
      have s41 := s4.tr t1
      refine ⟨_, rfl, p, CT, dx, _, _, rfl, s41 _ _ htw, T.cl, T.nb, flds_b _ _, l2, ys, rfl, .inl (SqL.of (s41 _ _ ht.2)), ys.length, rfl, by (first | lia | omega), fun d2 hd2 => ?_⟩
      have e := told_sorted pok.nd hperm hsrt
      have l2' : LI (upd (upd H4 d (.lst (ns'.map V.int))) d2 (.lst ((List.range ys.length).map fun k => V.int ((k : Nat) : Int)))) d2 ns' := by
        rw [LI, upd_same, e, hpl, List.map_map]
        rfl
      refine ⟨_, _, den_ints ((Same.rfl'.new hd2) _ _ upd_same), den_ints l2', sh_ints _, sh_ints _, ?_⟩
      rw [eqv_lints, decide_eq_true rfl]
      exact kQ _ (s41.tr (Same.rfl'.new hd2))

/-! _law_counts -/
inductive spCountsI (CT : Addr) (vs : List V) (H : Hp) (Q : VK) (E : XK) : Prop
  | mk (p l2 ls fo : Addr) (q : Int) (ys xs : List V) (ps : PP) (bs : List Int) (nss : List (List Int)) : (vs = [.ref p, .ref ls, .ref fo]) → (TownAt CT H p l2 q ys) → (PV H ys ps) → (fits q ps = true) → (LI H ls bs) → (bs.length ≤ 100) → (H fo = some (.lst xs)) → (LS H xs nss) → ((∀ g ∈ nss, someQ g q = true ∧ g.length ≤ 24 ∧ g.length ≤ hereG ps bs g + 1)) → ((∀ b ∈ bs, 0 ≤ b ∧ b < ps.length)) → (∀ H', Same H H' → Q (.int (cntG ps bs nss)) H') → spCountsI CT vs H Q E
def spCounts (CT : Addr) : Sp := fun vs H Q E => spCountsI CT vs H Q E
theorem scCounts : FnScope ["town", "some", "found", "count", "piece", "inside", "here"] ["town", "some", "found"] (defScope sCounts) := ⟨rfl, rfl, rfl, by decide +kernel, rfl, by decide +kernel, by decide +kernel⟩
theorem ok_counts {f f2 : Addr} {fd fd2 : FuncData} (T : Txt K mg CE CS CQ CT) (F : Fun K "_law_counts" "_law_counts" sCounts f fd)
    (G2 : FnOk P w K mg base (CXE P w) 4 f2 fd2 ["town", "quarters"] (spWithin CT CQ)) (b2 : Binds K fd2 ["town", "quarters"] []) (m2 : mg "bridges_within" = some (.ref f2)) (k2 : PySem.W.keepIn K (.ref f2) = true) :
    FnOk P w K mg base CX0 5 f fd ["town", "some", "found"] (spCounts CT) := by
  refine F.ok scCounts (fun vs H Q E h => ?_) (fun cdv A outer s H vs Q E hr h => ?_)
  · obtain ⟨p, l2, ls, fo, q, ys, xs, ps, bs, nss, rfl, _⟩ := h
    rfl
  · obtain ⟨p, l2, ls, fo, q, ys, xs, ps, bs, nss, rfl, ht, hpv, hft, hls, hbl, hfo, hLS, hgs, hbs, kQ⟩ := h
    have ndB : ((["bridge"] : List Str) ++ (["inside"] : List Str)).Nodup := by decide +kernel
    refine ⟨_, pss_cons (ps_set (i := 3) scCounts.nd rfl (Or.inl rfl) pe_int)
      (pss_cons (ps_for PassesOwn.never rfl (pi_list (pv 2)) (pg_name (i := 4) scCounts.nd rfl (Or.inl rfl))
        (pss_cons (ps_set (i := 5) scCounts.nd rfl (Or.inr rfl) (pe_call G2 hr (by rfl) m2 k2 b2 .nil passE0 (pa_cons (pv 0) (pa_cons (pe_callTy c_list (by rfl) T.list bt_list (pa_cons (pv 4) pa_nil)) pa_nil))))
        (pss_cons (ps_set (i := 6) scCounts.nd rfl (Or.inl rfl) (pe_callB c_len (by rfl) T.len PySem.boot_len (pa_cons (pe_comp (own := ["bridge"]) (caps := ["inside"]) (cs := [5]) (sc := defScope sCounts) ⟨rfl, rfl, by decide +kernel, by decide +kernel, by decide +kernel, by decide +kernel, rfl⟩ rfl
          (pi_list (pv 1)) (fun _ _ _ _ _ => pg_name (i := 0) ndB rfl (Or.inl rfl) (.inr rfl)) (fun _ _ _ _ _ => pf_one (pt_cmpR op_in_seq (pv 0) (pv 1) rfl)) (fun _ _ _ _ _ => pv 0)) pa_nil)))
        (pss_cons (ps_if (pt_cmpR op_lt (pv 6) (pe_op op_sub (pe_callB c_len (by rfl) T.len PySem.boot_len (pa_cons (pv 4) pa_nil)) pe_int) (nomark _)) (pss_one (ps_ret (pe_un un_neg pe_int))) pss_nil)
        (pss_one (ps_set (i := 3) scCounts.nd rfl (Or.inl rfl) (pe_op op_add (pe_op op_sub (pe_op op_add (pv 3) (pv 6)) (pe_callB c_len (by rfl) T.len PySem.boot_len (pa_cons (pv 4) pa_nil))) pe_int)))))))
      (pss_one (ps_ret (pv 3)))), ?_⟩
    try dsimp only [cx_of, cx_nox, cx_comp]
    obtain ⟨⟨hq1, hq2⟩, h60, hok⟩ := fits_iff hft
    have hlen := hLS.length
    refine ⟨_, rfl, fo, rfl, ⟨_, SqL.of hfo⟩, for_list (K := K) (a := fo) (xs := xs) (fun i σ H' => Same H H' ∧ ∃ u v z, σ = [some (.ref p), some (.ref ls), some (.ref fo), some (.int (cntG ps bs (nss.take i))), u, v, z])
      ⟨Same.rfl', _, _, _, rfl⟩ (fun i σ H' _ ⟨e, _⟩ => SqL.of (e _ _ hfo)) ?_ ?_⟩
    · rintro i x σ H2 hi ⟨s2, u, v, z, rfl⟩
      obtain ⟨g, hg, a, rfl, hag⟩ := hLS.get hi
      obtain ⟨hsq, hgl, hhere⟩ := hgs g (List.mem_of_getElem? hg)
      refine ⟨_, rfl, _, rfl, a, _, rfl, .inl (SqL.of (s2 _ _ hag)), fun lc hlc => ?_⟩
      have t1 : Same H2 (upd H2 lc (.lst (g.map V.int))) := Same.rfl'.new hlc
      have s3 := s2.tr t1
      refine ⟨p, l2, q, ys, ps, lc, g, rfl, ht.same s3, hpv.same s3, hft, upd_same, by (first | lia | omega), fun _ H4 w s4 _ hw => ?_, fun z => (by rw [hsq] at z; cases z)⟩
      have s34 := s3.tr s4
      have hls4 : LI H4 ls bs := s34 _ _ hls
      refine ⟨_, rfl, ls, rfl, ⟨_, SqL.of hls4⟩, fun D hD => comp_ext (n := bs.length) hD (fun i => ((bs.take i).filter fun b => inG g (eb ps b)).map V.int) rfl (fun i hi => ?_) (fun i H5 hi sm hD2 => ?_) (fun H5 s5 hD5 => ?_)⟩
      · rw [List.length_map]
        refine small1000 (Nat.le_trans (List.length_filter_le _ _) ?_)
        rw [List.length_take]
        (first | lia | omega)
      · have hls5 : LI H5 ls bs := sm _ _ hls4
        have q1 : (bs.map V.int)[i]? = some (.int bs[i]) := by rw [List.getElem?_map, List.getElem?_eq_getElem hi]; rfl
        refine ⟨⟨_, _, SqL.of hls5, q1⟩, fun K1 K2 k1 k2 x H' yy => ?_⟩
        obtain ⟨rfl, e⟩ := yy
        have ex := e _ (SqL.of hls5)
        rw [q1] at ex
        cases ex
        refine ⟨rfl, _, rfl, _, rfl, w, _, rfl, .inl (SqL.of (sm _ _ hw)), rfl, flat_ints _, _, rfl, ?_⟩
        rw [show (if false = true then !inV (V.int bs[i]) ((filtR ps.length (withP g ps)).map V.int) else inV (V.int bs[i]) ((filtR ps.length (withP g ps)).map V.int)) = inG g (eb ps bs[i]) from by rw [if_neg Bool.false_ne_true, inV_ints, within_has (hbs _ (List.getElem_mem hi))]]
        have et := take_snoc' (List.getElem?_eq_getElem hi)
        refine ite2 (fun h => ⟨_, rfl, k1 _ _ Same.rfl' ?_⟩) (fun h => k2 _ Same.rfl' ?_)
        · rw [et, List.filter_append, List.filter_cons, if_pos h, List.map_append]
          rfl
        · rw [et, List.filter_append, List.filter_cons, if_neg h, List.filter_nil, List.append_nil]
      refine ⟨⟨_, SqL.of (s5 _ _ hls4), by rw [List.length_map]; exact Nat.le_refl _⟩, ?_⟩
      rw [List.take_length] at hD5
      have ha5 : LI H5 a g := (s34.tr s5) _ _ hag
      refine ⟨D, _, rfl, .inl (SqL.of hD5), ?_⟩
      refine ⟨_, rfl, _, rfl, a, _, rfl, .inl (SqL.of ha5), _, _, rfl, rfl, _, _, rfl, rfl, _, rfl, ?_⟩
      have eh : (((bs.filter fun b => inG g (eb ps b)).map V.int).length : Int) = (hereG ps bs g : Int) := by rw [List.length_map]; rfl
      have egl : ((g.map V.int).length : Int) = (g.length : Int) := by rw [List.length_map]
      rw [eh, egl, decide_eq_false (by (first | lia | omega))]
      refine iteF ⟨_, rfl, _, rfl, _, _, rfl, rfl, _, rfl, a, _, rfl, .inl (SqL.of ha5), _, _, rfl, rfl, _, _, rfl, rfl, ?_⟩
      refine ⟨s34.tr s5, some (.ref a), some (.ref w), some (.int (hereG ps bs g : Int)), ?_⟩
      have ec : cntG ps bs (nss.take (i + 1)) = cntG ps bs (nss.take i) + (hereG ps bs g : Int) - (g.length : Int) + 1 := by
        unfold cntG
        rw [take_snoc' hg, List.map_append, List.sum_append]
        simp
        (first | lia | omega)
      rw [ec, ← egl]
      rfl
    · rintro σ H2 ⟨s2, u, v, z, rfl⟩
      rw [hlen, List.take_length]
      exact ⟨_, rfl, kQ _ s2⟩

/-! _law_without -/
inductive spWithoutI (CT : Addr) (vs : List V) (H : Hp) (Q : VK) (E : XK) : Prop
  | mk (p l2 ls : Addr) (q b : Int) (ys : List V) (ps : PP) (bs : List Int) : (vs = [.ref p, .ref ls, .int b]) → (TownAt CT H p l2 q ys) → (PV H ys ps) → (fits q ps = true) → (LI H ls bs) → (bs.length ≤ 100) → (risesB bs ps.length = true) → (∀ (H' : Hp) (d : Addr) (as : List Addr), Same H H' → H' d = some (.lst (as.map V.ref)) → LS H' (as.map V.ref) (pcs (stp ps (woB bs b)) q.toNat q.toNat) → Q (.ref d) H') → spWithoutI CT vs H Q E
def spWithout (CT : Addr) : Sp := fun vs H Q E => spWithoutI CT vs H Q E
theorem scWithout : FnScope ["town", "some", "bridge"] ["town", "some", "bridge"] (defScope sWithout) := ⟨rfl, rfl, rfl, by decide +kernel, rfl, by decide +kernel, by decide +kernel⟩
theorem ok_without {f f1 : Addr} {fd fd1 : FuncData} (T : Txt K mg CE CS CQ CT) (F : Fun K "_law_without" "_law_without" sWithout f fd)
    (G1 : FnOk P w K mg base (CXE P w) 4 f1 fd1 ["town", "some"] (spPieces CT CS)) (b1 : Binds K fd1 ["town", "some"] []) (m1 : mg "pieces_of" = some (.ref f1)) (k1 : PySem.W.keepIn K (.ref f1) = true) :
    FnOk P w K mg base CX0 5 f fd ["town", "some", "bridge"] (spWithout CT) := by
  refine F.ok scWithout (fun vs H Q E h => ?_) (fun cdv A outer s H vs Q E hr h => ?_)
  · obtain ⟨p, l2, ls, q, b, ys, ps, bs, rfl, _⟩ := h
    rfl
  · obtain ⟨p, l2, ls, q, b, ys, ps, bs, rfl, ht, hpv, hft, hls, hbl, hrb, kQ⟩ := h
    have ndO : ((["other"] : List Str) ++ (["bridge"] : List Str)).Nodup := by decide +kernel
    refine ⟨_, pss_one (ps_ret (pe_call G1 hr (by rfl) m1 k1 b1 .nil passE0 (pa_cons (pv 0) (pa_cons (pe_comp (own := ["other"]) (caps := ["bridge"]) (cs := [2]) (sc := defScope sWithout) ⟨rfl, rfl, by decide +kernel, by decide +kernel, by decide +kernel, by decide +kernel, rfl⟩ rfl
          (pi_list (pv 1)) (fun _ _ _ _ _ => pg_name (i := 0) ndO rfl (Or.inl rfl) (.inr rfl)) (fun _ _ _ _ _ => pf_one (pt_cmpR op_ne (pv 0) (pv 1) (nomark _))) (fun _ _ _ _ _ => pv 0)) pa_nil)))), ?_⟩
    try dsimp only [cx_of, cx_nox, cx_comp]
    refine ⟨_, rfl, _, rfl, ls, rfl, ⟨_, SqL.of hls⟩, fun D hD => comp_ext (n := bs.length) hD (fun i => ((bs.take i).filter fun x => !decide (x = b)).map V.int) rfl (fun i hi => ?_) (fun i H5 hi sm hD2 => ?_) (fun H5 s5 hD5 => ?_)⟩
    · rw [List.length_map]
      refine small1000 (Nat.le_trans (List.length_filter_le _ _) ?_)
      rw [List.length_take]
      (first | lia | omega)
    · have hls5 : LI H5 ls bs := sm _ _ hls
      have q1 : (bs.map V.int)[i]? = some (.int bs[i]) := by rw [List.getElem?_map, List.getElem?_eq_getElem hi]; rfl
      refine ⟨⟨_, _, SqL.of hls5, q1⟩, fun K1 K2 k1 k2 x H' yy => ?_⟩
      obtain ⟨rfl, e⟩ := yy
      have ex := e _ (SqL.of hls5)
      rw [q1] at ex
      cases ex
      refine ⟨rfl, _, rfl, _, rfl, rfl, _, rfl, ?_⟩
      rw [dec_int]
      have et := take_snoc' (List.getElem?_eq_getElem hi)
      refine ite2 (fun h => ⟨_, rfl, k1 _ _ Same.rfl' ?_⟩) (fun h => k2 _ Same.rfl' ?_)
      · rw [et, List.filter_append, List.filter_cons, if_pos h, List.map_append]
        rfl
      · rw [et, List.filter_append, List.filter_cons, if_neg h, List.filter_nil, List.append_nil]
    · refine ⟨⟨_, SqL.of (s5 _ _ hls), by rw [List.length_map]; exact Nat.le_refl _⟩, ?_⟩
      rw [List.take_length] at hD5
      have hw : risesB (woB bs b) ps.length = true := by
        obtain ⟨h1, h2⟩ := risesB_iff.mp hrb
        exact risesB_iff.mpr ⟨h1.filter _, fun x hx => h2 x (mem_wo.mp hx).1⟩
      have hwl : (woB bs b).length ≤ 100 := Nat.le_trans (List.length_filter_le _ _) hbl
      refine ⟨p, l2, q, ys, ps, D, woB bs b, rfl, ht.same s5, hpv.same s5, hft, hD5, hwl, fun _ H6 d as s6 _ hd hLS _ _ => kQ _ d as (s5.tr s6) hd hLS, fun z => (by rw [hw] at z; cases z)⟩
end
end K06
namespace K06
open PySem L2 XM
/-! plain mathematics: the pieces of a town's bridges -/
theorem gp_rng {nss : List (List Int)} {q : Int} (h : GP nss q) : ∀ x ∈ nss.flatten, 0 ≤ x ∧ x < q := fun x hx => by
  obtain ⟨g, hg, hxg⟩ := List.mem_flatten.mp hx
  exact (risesB_iff.mp ((partsFrom_iff.mp h.pf).1 g hg).1).2 x hxg
theorem gp_len {nss : List (List Int)} {q : Int} (hq : 1 ≤ q) (h : GP nss q) : (nss.flatten.length : Int) = q := by
  have h1 := nodup_len nss.flatten (upto q) h.nd fun x hx => mem_upto.mpr (gp_rng h x hx)
  have h2 := nodup_len (upto q) nss.flatten (upto_nodup q) fun x hx => h.has x (mem_upto.mp hx).1 (mem_upto.mp hx).2
  rw [upto_len] at h1 h2
  (first | lia | omega)
theorem gp_part {nss : List (List Int)} {q : Int} (hq : 1 ≤ q) (h : GP nss q) : isPart nss q = true := by
  obtain ⟨h1, h2, _⟩ := partsFrom_iff.mp h.pf
  unfold isPart groupsOk
  rw [Bool.and_eq_true, Bool.and_eq_true, Bool.and_eq_true, decide_eq_true_eq, lens_sum, once_iff, rising_iff, List.all_eq_true]
  exact ⟨⟨fun g hg => grp1.mpr (h1 g hg), h.nd, h2⟩, gp_len hq h⟩
theorem flat_uniq {nss : List (List Int)} (h : nss.flatten.Nodup) {i j : Nat} {g g' : List Int} {x : Int} (hi : nss[i]? = some g) (hj : nss[j]? = some g') (hx : x ∈ g) (hx' : x ∈ g') : i = j := by
  unfold List.Nodup at h
  have hp := (List.pairwise_flatten.mp h).2
  obtain ⟨l1, e1⟩ := List.getElem?_eq_some_iff.mp hi
  obtain ⟨l2, e2⟩ := List.getElem?_eq_some_iff.mp hj
  rcases Nat.lt_trichotomy i j with z | z | z
  · exact absurd rfl (List.pairwise_iff_getElem.mp hp i j l1 l2 z x (by rw [e1]; exact hx) x (by rw [e2]; exact hx'))
  · exact z
  · exact absurd rfl (List.pairwise_iff_getElem.mp hp j i l2 l1 z x (by rw [e2]; exact hx') x (by rw [e1]; exact hx))
structure PF (ps : PP) (bs : List Int) (q : Int) (nss : List (List Int)) : Prop where
  part : isPart nss q = true
  n24 : nss.length ≤ 24
  f24 : nss.flatten.length ≤ 24
  gs : ∀ g ∈ nss, someQ g q = true ∧ g.length ≤ 24 ∧ g.length ≤ hereG ps bs g + 1
  ends : ∀ b ∈ bs, inOne nss (eb ps b) = true
  one : ∀ x y : Int, (0 ≤ x ∧ x < q) → ((∃ g ∈ nss, x ∈ g ∧ y ∈ g) ↔ RE (bs.map (eb ps)) x y)
  cnt : cntG ps bs nss = (nclo (bs.map (eb ps)) : Int)
  num : (nss.length : Int) + bs.length = q + nclo (bs.map (eb ps))
theorem sum_cnt (ps : PP) (bs : List Int) : ∀ nss : List (List Int), cntG ps bs nss = ((nss.map fun g => hereG ps bs g).sum : Int) - (nss.flatten.length : Int) + nss.length
  | [] => rfl
  | g :: r => by
    have ih := sum_cnt ps bs r
    unfold cntG at ih ⊢
    rw [List.map_cons, List.sum_cons, ih, List.map_cons, List.sum_cons, List.flatten_cons, List.length_append, List.length_cons]
    (first | lia | omega)
theorem inE_of {ps : PP} {bs : List Int} {q : Int} (hok : ∀ p ∈ ps, okPair q p = true) (hbs : ∀ b ∈ bs, 0 ≤ b ∧ b < ps.length) : InE q.toNat (bs.map (eb ps)) := fun e he => by
  obtain ⟨b, hb, rfl⟩ := List.mem_map.mp he
  obtain ⟨b0, b1⟩ := hbs b hb
  have hl : b.toNat < ps.length := by (first | lia | omega)
  have e : eb ps b = ps[b.toNat] := getD_at (List.getElem?_eq_getElem hl)
  have h := hok _ (List.getElem_mem hl)
  rw [← e] at h
  unfold okPair at h
  simp only [Bool.and_eq_true, decide_eq_true_eq] at h
  (first | lia | omega)
theorem pf_mk {ps : PP} {bs : List Int} {q : Int} (hft : fits q ps = true) (hrb : risesB bs ps.length = true) : PF ps bs q (pcs (stp ps bs) q.toNat q.toNat) := by
  obtain ⟨⟨hq1, hq2⟩, h60, hok⟩ := fits_iff hft
  have hbs := (risesB_iff.mp hrb).2
  have S : Sym (stp ps bs) q.toNat := stp_sym hok hbs
  have G := pcs_gp hq1 S
  have hE := inE_of hok hbs
  have hfl := gp_len hq1 G
  have eP := pcs_E S
  have hone : ∀ x y : Int, (0 ≤ x ∧ x < q) → ((∃ g ∈ pcs (stp ps bs) q.toNat q.toNat, x ∈ g ∧ y ∈ g) ↔ RE (bs.map (eb ps)) x y) := fun x y hx => by
    rw [eP]
    constructor
    · rintro ⟨g, hg, h1, h2⟩
      obtain ⟨r, hr, rfl⟩ := List.mem_map.mp hg
      exact (mem_cmpE.mp h1).2.symm.trans (mem_cmpE.mp h2).2
    · intro h
      have hx' : 0 ≤ x ∧ x < (q.toNat : Int) := by (first | lia | omega)
      obtain ⟨r, r0, r1, r2⟩ := has_minE hE hx'
      exact ⟨_, List.mem_map.mpr ⟨r, mem_minsE.mpr ⟨r0, r2⟩, rfl⟩, mem_cmpE.mpr ⟨hx', r1⟩, mem_cmpE.mpr ⟨RE.rng hE hx' h, r1.trans h⟩⟩
  have hends : ∀ b ∈ bs, ∃ g ∈ pcs (stp ps bs) q.toNat q.toNat, (eb ps b).1 ∈ g ∧ (eb ps b).2 ∈ g := fun b hb => by
    have hm : eb ps b ∈ bs.map (eb ps) := List.mem_map.mpr ⟨b, hb, rfl⟩
    have := hE _ hm
    exact (hone _ _ (by (first | lia | omega))).mpr (.step .refl (.inl hm))
  have hnum : ((pcs (stp ps bs) q.toNat q.toNat).length : Int) + bs.length = q + nclo (bs.map (eb ps)) := by
    have := count_E hE
    rw [eP]
    unfold pcsE
    rw [List.length_map] at this ⊢
    (first | lia | omega)
  have hsum : ((pcs (stp ps bs) q.toNat q.toNat).map fun g => hereG ps bs g).sum = bs.length := by
    refine sum_split _ bs (fun g b => inG g (eb ps b)) fun b hb => ?_
    obtain ⟨g, hg, h1, h2⟩ := hends b hb
    obtain ⟨k, hk, ek⟩ := List.mem_iff_getElem.mp hg
    have hk' : (pcs (stp ps bs) q.toNat q.toNat)[k]? = some g := by rw [List.getElem?_eq_getElem hk, ek]
    exact filter_one hk' (inG_iff.mpr ⟨h1, h2⟩) fun j g' hj hp => flat_uniq G.nd hj hk' (inG_iff.mp hp).1 h1
  refine ⟨gp_part hq1 G, ?_, by (first | lia | omega), fun g hg => ⟨?_, ?_, ?_⟩, fun b hb => ?_, hone, ?_, hnum⟩
  · have := @pcs_len (stp ps bs) q.toNat q.toNat
    (first | lia | omega)
  · obtain ⟨h1, h2⟩ := (partsFrom_iff.mp G.pf).1 g hg
    unfold someQ
    rw [Bool.and_eq_true]
    exact ⟨by simpa using h2, h1⟩
  · obtain ⟨k, hk, ek⟩ := List.mem_iff_getElem.mp hg
    have := len_le_flat (nss := pcs (stp ps bs) q.toNat q.toNat) (i := k) (ns := g) (by rw [List.getElem?_eq_getElem hk, ek])
    (first | lia | omega)
  · have h := piece_has hE (g := g) (by rw [← eP]; exact hg)
    rw [List.filter_map, List.length_map] at h
    exact h
  · obtain ⟨g, hg, h1, h2⟩ := hends b hb
    unfold inOne
    exact List.any_eq_true.mpr ⟨g, hg, inG_iff.mpr ⟨h1, h2⟩⟩
  · rw [sum_cnt, hfl]
    have : (((pcs (stp ps bs) q.toNat q.toNat).map fun g => hereG ps bs g).sum : Int) = (bs.length : Int) := by rw [← hsum]
    (first | lia | omega)
theorem rises_wo {bs : List Int} {m b : Int} (h : risesB bs m = true) : risesB (woB bs b) m = true := by
  obtain ⟨h1, h2⟩ := risesB_iff.mp h
  exact risesB_iff.mpr ⟨h1.filter _, fun x hx => h2 x (mem_wo.mp hx).1⟩
theorem pcs_ring {ps : PP} {bs fs : List Int} {q b a : Int} (hft : fits q ps = true) (hrb : risesB bs ps.length = true) (R : RingOk ps bs fs a) (hb : b ∈ fs) : pcs (stp ps (woB bs b)) q.toNat q.toNat = pcs (stp ps bs) q.toNat q.toNat := by
  obtain ⟨_, _, hok⟩ := fits_iff hft
  obtain ⟨W, hW⟩ := R.rnd
  rw [pcs_E (stp_sym hok (risesB_iff.mp hrb).2), pcs_E (stp_sym hok (risesB_iff.mp (rises_wo hrb)).2)]
  exact pcsE_congr fun x y => re_wo (ring_wo hW R.sub R.nd hb)
theorem pcs_more {ps : PP} {bs : List Int} {q b : Int} (hft : fits q ps = true) (hrb : risesB bs ps.length = true) (hn : ∀ j, ¬ Clo ps bs j) (hb : b ∈ bs) : (pcs (stp ps (woB bs b)) q.toNat q.toNat).length = (pcs (stp ps bs) q.toNat q.toNat).length + 1 := by
  have h1 := (pf_mk hft hrb).num
  have h2 := (pf_mk (bs := woB bs b) hft (rises_wo hrb)).num
  have hs := (risesB_iff.mp hrb).1
  have z1 : nclo (bs.map (eb ps)) = 0 := nclo_zero.mpr fun j hj => hn j (cloE_iff.mp hj)
  have z2 : nclo ((woB bs b).map (eb ps)) = 0 := nclo_zero.mpr fun j hj => clo_wo hs hn j (cloE_iff.mp hj)
  have := wo_len (hs.imp fun h => by (first | lia | omega)) hb
  (first | lia | omega)
theorem eqv_nilL (nss : List (List Int)) : PyData.eqv (.list (nss.map ld)) (.list []) = decide (nss = []) := by
  cases nss with
  | nil => simp [PyData.eqv, PyData.eqvAll]
  | cons g r => simp [PyData.eqv, PyData.eqvAll]
end K06
namespace K06
open PySem L2 XM
def selP (nss : List (List Int)) (x y : Int) (k : Nat) : Bool := (nss.getD k []).contains x && (nss.getD k []).contains y
theorem ls_sel {H : Hp} {xs : List V} {nss : List (List Int)} (h : LS H xs nss) {l : List Nat} (hl : ∀ k ∈ l, k < nss.length) : LS H (l.map fun k => xs.getD k .non) (l.map fun k => nss.getD k []) := by
  refine All2.of_get (by rw [List.length_map, List.length_map]) fun k x g h1 h2 => ?_
  rw [List.getElem?_map] at h1 h2
  obtain ⟨b, hk, rfl⟩ := Option.map_eq_some_iff.mp h1
  rw [hk] at h2
  cases h2
  have hr := hl b (List.mem_of_getElem? hk)
  have hln := h.length
  obtain ⟨x, hx⟩ : ∃ x, xs[b]? = some x := ⟨_, List.getElem?_eq_getElem (by (first | lia | omega))⟩
  obtain ⟨g, hg, r⟩ := h.get hx
  have e1 : xs.getD b .non = x := by rw [List.getD_eq_getElem?_getD, hx]; rfl
  have e2 : nss.getD b [] = g := by rw [List.getD_eq_getElem?_getD, hg]; rfl
  show L1 H (xs.getD b .non) (nss.getD b [])
  rw [e1, e2]
  exact r
theorem sel_iff {nss : List (List Int)} {x y : Int} : (!decide ((((List.range nss.length).filter (selP nss x y)).map fun k => nss.getD k []) = [])) = true ↔ ∃ g ∈ nss, x ∈ g ∧ y ∈ g := by
  rw [Bool.not_eq_true', decide_eq_false_iff_not, List.map_eq_nil_iff, List.filter_eq_nil_iff]
  constructor
  · intro h
    refine Classical.byContradiction fun z => h fun k hk hp => z ?_
    have hk := List.mem_range.mp hk
    have e : nss.getD k [] = nss[k] := by rw [List.getD_eq_getElem?_getD, List.getElem?_eq_getElem hk]; rfl
    unfold selP at hp
    rw [e] at hp
    simp only [Bool.and_eq_true, List.contains_iff_mem] at hp
    exact ⟨_, List.getElem_mem hk, hp⟩
  · rintro ⟨g, hg, h1, h2⟩ h
    obtain ⟨k, hk, e⟩ := List.mem_iff_getElem.mp hg
    refine h k (List.mem_range.mpr hk) ?_
    have e2 : nss.getD k [] = g := by rw [List.getD_eq_getElem?_getD, List.getElem?_eq_getElem hk, e]; rfl
    unfold selP
    rw [e2]
    simp [h1, h2]
theorem iteF' {b : Bool} {p q : Prop} (h : b = false) (hq : q) : if b = true then p else q := by
  rw [h]
  exact hq
section
variable {P : Program} {w : World} {K : PySem.W.Frag} {mg : Str → Option Value} {base : Heap} {CE CS CQ CT : Addr}
/-! law -/
structure E6 (K : PySem.W.Frag) (CT : Addr) (H : Hp) (sc lp p l2 ls fo : Addr) (ns : List Int) (q : Int) (xs : List V) (ps : PP) (bs : List Int) (zs : List V) (nss : List (List Int)) : Prop where
  sc : SqL K H sc (ns.map V.int)
  lp : H lp = some (.lst xs)
  pv : PV H xs ps
  tw : TownAt CT H p l2 q xs
  ls : LI H ls bs
  fo : H fo = some (.lst zs)
  fl : LS H zs nss
theorem E6.same {H H' : Hp} {sc lp p l2 ls fo : Addr} {ns : List Int} {q : Int} {xs zs : List V} {ps : PP} {bs : List Int} {nss : List (List Int)} (e : E6 K CT H sc lp p l2 ls fo ns q xs ps bs zs nss) (s : Same H H') : E6 K CT H' sc lp p l2 ls fo ns q xs ps bs zs nss :=
  ⟨s.seq e.sc, s _ _ e.lp, e.pv.same s, e.tw.same s, s _ _ e.ls, s _ _ e.fo, e.fl.same s⟩
inductive spLawI (K : PySem.W.Frag) (vs : List V) (H : Hp) (Q : VK) (E : XK) : Prop
  | mk (a : Addr) (ns : List Int) : (vs = [.ref a]) → (SqL K H a (ns.map V.int)) → (∀ H', Q (.bl true) H') → spLawI K vs H Q E
def spLaw (K : PySem.W.Frag) : Sp := fun vs H Q E => spLawI K vs H Q E
theorem scLaw : FnScope ["script", "quarters", "pairs", "some", "town", "found", "one", "other", "alike", "ring", "bridge"] ["script"] (defScope sLaw) := ⟨rfl, rfl, rfl, by decide +kernel, rfl, by decide +kernel, by decide +kernel⟩
structure Fs (P : Program) (w : World) (K : PySem.W.Frag) (mg : Str → Option Value) (base : Heap) (CT CS CQ fI fA fT fS fP fE fO fR fC fW fJ : Addr) (dI dA dT dS dP dE dO dR dC dW dJ : FuncData) : Prop where
  gI : FnOk P w K mg base CX0 4 fI dI ["self", "quarters", "bridges"] (spInit CT)
  bI : Binds K dI ["self", "quarters", "bridges"] []
  mkT : Mk K CT fI
  gA : FnOk P w K mg base CX0 1 fA dA ["script", "k"] (spAt K)
  bA : Binds K dA ["script", "k"] []
  mA : mg "_law_at" = some (.ref fA)
  kA : PySem.W.keepIn K (.ref fA) = true
  gT : FnOk P w K mg base CX0 2 fT dT ["script"] (spTown K)
  bT : Binds K dT ["script"] []
  mT : mg "_law_town" = some (.ref fT)
  kT : PySem.W.keepIn K (.ref fT) = true
  gS : FnOk P w K mg base CX0 1 fS dS ["script", "many"] (spSome K)
  bS : Binds K dS ["script", "many"] []
  mS : mg "_law_some" = some (.ref fS)
  kS : PySem.W.keepIn K (.ref fS) = true
  gP : FnOk P w K mg base (CXE P w) 4 fP dP ["town", "some"] (spPieces CT CS)
  bP : Binds K dP ["town", "some"] []
  mP : mg "pieces_of" = some (.ref fP)
  kP : PySem.W.keepIn K (.ref fP) = true
  gE : FnOk P w K mg base CX0 6 fE dE ["town", "some", "found"] (spEach CT)
  bE : Binds K dE ["town", "some", "found"] []
  mE : mg "_law_each_once" = some (.ref fE)
  kE : PySem.W.keepIn K (.ref fE) = true
  gO : FnOk P w K mg base (CXE P w) 4 fO dO ["town", "some", "one", "other"] (spOver CT CS CQ)
  bO : Binds K dO ["town", "some", "one", "other"] []
  mO : mg "way_over" = some (.ref fO)
  kO : PySem.W.keepIn K (.ref fO) = true
  gR : FnOk P w K mg base (CXE P w) 4 fR dR ["town", "some"] (spRing CT CS)
  bR : Binds K dR ["town", "some"] []
  mR : mg "ring_over" = some (.ref fR)
  kR : PySem.W.keepIn K (.ref fR) = true
  gC : FnOk P w K mg base CX0 5 fC dC ["town", "some", "found"] (spCounts CT)
  bC : Binds K dC ["town", "some", "found"] []
  mC : mg "_law_counts" = some (.ref fC)
  kC : PySem.W.keepIn K (.ref fC) = true
  gW : FnOk P w K mg base CX0 5 fW dW ["town", "some", "bridge"] (spWithout CT)
  bW : Binds K dW ["town", "some", "bridge"] []
  mW : mg "_law_without" = some (.ref fW)
  kW : PySem.W.keepIn K (.ref fW) = true
  gJ : FnOk P w K mg base (CXE P w) 5 fJ dJ ["town", "some"] (spJoins CT CS)
  bJ : Binds K dJ ["town", "some"] []
  mJ : mg "joins_all" = some (.ref fJ)
  kJ : PySem.W.keepIn K (.ref fJ) = true
theorem ok_law {f fI fA fT fS fP fE fO fR fC fW fJ : Addr} {fd dI dA dT dS dP dE dO dR dC dW dJ : FuncData} (T : Txt K mg CE CS CQ CT) (F : Fun K "law" "law" sLaw f fd) (S : Fs P w K mg base CT CS CQ fI fA fT fS fP fE fO fR fC fW fJ dI dA dT dS dP dE dO dR dC dW dJ) :
    FnOk P w K mg base CX0 7 f fd ["script"] (spLaw K) := by
  refine F.ok scLaw (fun vs H Q E h => ?_) (fun cdv A outer s H vs Q E hr h => ?_)
  · obtain ⟨a, ns, rfl, _⟩ := h
    rfl
  · obtain ⟨sc, ns, rfl, hS, kQ⟩ := h
    have hu := hr.units
    have r1 := hr.mono (j := 1) (by decide)
    have r2 := hr.mono (j := 2) (by decide)
    have r4 := hr.mono (j := 4) (by decide)
    have r5 := hr.mono (j := 5) (by decide)
    have ndP : ((["piece"] : List Str) ++ (["one", "other"] : List Str)).Nodup := by decide +kernel
    refine ⟨_, pss_cons (ps_asg (pe_call S.gT r2 (by rfl) S.mT S.kT S.bT .nil pass0 (pa_cons (pv 0) pa_nil)) (pg_tup (n := 2) rfl (pgs_cons (pg_name (i := 1) scLaw.nd rfl (Or.inl rfl)) (pgs_cons (pg_name (i := 2) scLaw.nd rfl (Or.inl rfl)) pgs_nil))))
      (pss_cons (ps_set (i := 3) scLaw.nd rfl (Or.inl rfl) (pe_call S.gS r1 (by rfl) S.mS S.kS S.bS .nil pass0 (pa_cons (pv 0) (pa_cons (pe_callB c_len (by rfl) T.len PySem.boot_len (pa_cons (pv 2) pa_nil)) pa_nil))))
      (pss_cons (ps_set (i := 4) scLaw.nd rfl (Or.inl rfl) (pe_make S.mkT S.gI r5 (by rfl) T.mgT S.bI .nil pass0 (pa_cons (pv 1) (pa_cons (pe_callTy c_list (by rfl) T.list bt_list (pa_cons (pv 2) pa_nil)) pa_nil))))
      (pss_cons (ps_set (i := 5) scLaw.nd rfl (Or.inl rfl) (pe_call S.gP r4 (by rfl) S.mP S.kP S.bP .nil passE0 (pa_cons (pv 4) (pa_cons (pe_callTy c_list (by rfl) T.list bt_list (pa_cons (pv 3) pa_nil)) pa_nil))))
      (pss_cons (ps_if (pt_not (pt_val (pe_call S.gE hr (by rfl) S.mE S.kE S.bE .nil pass0 (pa_cons (pv 4) (pa_cons (pv 3) (pa_cons (pv 5) pa_nil)))))) (pss_one (ps_ret pe_bl)) pss_nil)
      (pss_cons (ps_set (i := 6) scLaw.nd rfl (Or.inr rfl) (pe_op op_mod (pe_call S.gA r1 (by rfl) S.mA S.kA S.bA .nil pass0 (pa_cons (pv 0) (pa_cons pe_int pa_nil))) (pv 1)))
      (pss_cons (ps_mid (ps_set (i := 7) scLaw.nd rfl (Or.inr rfl) (pe_op op_mod (pe_call S.gA r1 (by rfl) S.mA S.kA S.bA .nil pass0 (pa_cons (pv 0) (pa_cons pe_int pa_nil))) (pv 1))))
      (pss_cons (ps_set (i := 8) scLaw.nd rfl (Or.inl rfl) (pe_cmpR (op_neD hu) (pe_comp (own := ["piece"]) (caps := ["one", "other"]) (cs := [6, 7]) (sc := defScope sLaw) ⟨rfl, rfl, by decide +kernel, by decide +kernel, by decide +kernel, by decide +kernel, rfl⟩ rfl
          (pi_list (pv 5)) (fun _ _ _ _ _ => pg_name (i := 0) ndP rfl (Or.inl rfl) (.inr rfl)) (fun _ _ _ _ _ => pf_one (pw_and (pt_cmpR op_in_seq (pv 1) (pv 0) rfl) (pw_and1 (pt_cmpR op_in_seq (pv 2) (pv 0) rfl))).pt) (fun _ _ _ _ _ => pv 0)) (pe_lst pa_nil) (nomark _)))
      (pss_cons (ps_mid (ps_if (pt_cmpR op_ne (pe_cmp (pc_notN (pe_call S.gO r4 (by rfl) S.mO S.kO S.bO .nil passE0 (pa_cons (pv 4) (pa_cons (pe_callTy c_list (by rfl) T.list bt_list (pa_cons (pv 3) pa_nil)) (pa_cons (pv 6) (pa_cons (pv 7) pa_nil))))))) (pv 8) (nomark _)) (pss_one (ps_ret pe_bl)) pss_nil))
      (pss_cons (ps_mid (ps_set (i := 9) scLaw.nd rfl (Or.inl rfl) (pe_call S.gR r4 (by rfl) S.mR S.kR S.bR .nil passE0 (pa_cons (pv 4) (pa_cons (pe_callTy c_list (by rfl) T.list bt_list (pa_cons (pv 3) pa_nil)) pa_nil)))))
      (pss_cons (ps_if (pt_cmpR op_ne (pe_cmpR op_eq (pe_call S.gC r5 (by rfl) S.mC S.kC S.bC .nil pass0 (pa_cons (pv 4) (pa_cons (pv 3) (pa_cons (pv 5) pa_nil)))) pe_int (nomark _)) (pe_cmp (pc_isN (pv 9))) (nomark _)) (pss_one (ps_ret pe_bl)) pss_nil)
      (pss_cons (ps_if (pt_cmp (pc_notN (pv 9)))
        (pss_cons (ps_for PassesOwn.never rfl (pi_list (pv 9)) (pg_name (i := 10) scLaw.nd rfl (Or.inl rfl)) (pss_one (ps_if (pt_cmpR (op_neD hu) (pe_call S.gW r5 (by rfl) S.mW S.kW S.bW .nil pass0 (pa_cons (pv 4) (pa_cons (pv 3) (pa_cons (pv 10) pa_nil)))) (pv 5) (nomark _)) (pss_one (ps_ret pe_bl)) pss_nil)))
        (pss_one (ps_ret pe_bl))) pss_nil)
      (pss_cons (ps_for PassesOwn.never rfl (pi_list (pv 3)) (pg_name (i := 10) scLaw.nd rfl (Or.inl rfl))
        (pss_cons (ps_if (pt_cmpR op_ne (pe_callB c_len (by rfl) T.len PySem.boot_len (pa_cons (pe_call S.gW r5 (by rfl) S.mW S.kW S.bW .nil pass0 (pa_cons (pv 4) (pa_cons (pv 3) (pa_cons (pv 10) pa_nil)))) pa_nil)) (pe_op op_add (pe_callB c_len (by rfl) T.len PySem.boot_len (pa_cons (pv 5) pa_nil)) pe_int) (nomark _)) (pss_one (ps_ret pe_bl)) pss_nil)
        (pss_one (ps_if (pt_cmpR (op_neD hu) (pe_call S.gO r4 (by rfl) S.mO S.kO S.bO .nil passE0 (pa_cons (pv 4) (pa_cons (pe_callTy c_list (by rfl) T.list bt_list (pa_cons (pv 3) pa_nil)) (pa_cons (pe_ix ix_tup (pe_ix ix_list (pv 2) (pv 10) (fun _ _ => rfl)) pe_int (fun _ _ => rfl)) (pa_cons (pe_ix ix_tup (pe_ix ix_list (pv 2) (pv 10) (fun _ _ => rfl)) pe_int (fun _ _ => rfl)) pa_nil))))) (pe_lst (pa_cons (pv 10) pa_nil)) (nomark _)) (pss_one (ps_ret pe_bl)) pss_nil))))
      (pss_one (ps_ret (pe_cmpR op_eq (pe_call S.gJ r5 (by rfl) S.mJ S.kJ S.bJ .nil passE0 (pa_cons (pv 4) (pa_cons (pe_callTy c_list (by rfl) T.list bt_list (pa_cons (pv 3) pa_nil)) pa_nil))) (pe_cmpR op_eq (pe_callB c_len (by rfl) T.len PySem.boot_len (pa_cons (pv 3) pa_nil)) (pe_op op_sub (pv 1) pe_int) (nomark _)) (nomark _)))))))))))))))), ?_⟩
    try dsimp only [cx_of, cx_nox, cx_comp]
    -- quarters, pairs
    refine ⟨_, rfl, sc, ns, rfl, hS, fun t lp q xs ps H1 ht hlp hpv hft hpl s1 => ⟨t, _, rfl, SqT.of ht, rfl, _, _, rfl, _, _, rfl, rfl, ?_⟩⟩
    obtain ⟨⟨hq1, hq2⟩, h60, hok⟩ := fits_iff hft
    have hxl := hpv.length
    -- some
    refine ⟨_, rfl, _, rfl, lp, xs, rfl, .inl (SqL.of hlp), sc, ns, xs.length, rfl, s1.seq hS, by (first | lia | omega), by (first | lia | omega), fun H2 ls bs s2 fls hls hrb0 hbl => ?_⟩
    have hrb : risesB bs (ps.length : Int) = true := by rw [← hxl]; exact hrb0
    have hbs : ∀ b ∈ bs, 0 ≤ b ∧ b < ps.length := (risesB_iff.mp hrb).2
    -- town
    refine ⟨_, rfl, _, rfl, lp, xs, rfl, .inl (SqL.of (s2 _ _ hlp)), fun lh hlh p dx np ndx npd => ?_⟩
    have s3 : Same H2 (upd H2 lh (.lst xs)) := Same.rfl'.new hlh
    have s4 : Same (upd H2 lh (.lst xs)) (upd (upd (upd H2 lh (.lst xs)) dx (.own p)) p (.ins CT dx [])) := fun b o e => by
      rw [upd_ne (ne_of_none e np), upd_ne (ne_of_none e ndx)]
      exact e
    refine ⟨p, dx, q, lh, xs, ps, rfl, upd_same, s4 _ _ upd_same, ((hpv.same s2).same s3).same s4, hft, fun l2 H5 nl2 tw keep => ⟨rfl, ?_⟩⟩
    have s5 : Same H2 H5 := s3.tr fun b o e => keep b o (s4 b o e) (ne_of_none e np)
    -- found
    refine ⟨_, rfl, _, rfl, ls, _, rfl, .inl (SqL.of (s5 _ _ hls)), fun hh hhn => ?_⟩
    have s6 : Same H5 (upd H5 hh (.lst (bs.map V.int))) := Same.rfl'.new hhn
    have s56 := s5.tr s6
    refine ⟨p, l2, q, xs, ps, hh, bs, rfl, tw.same s6, hpv.same (s2.tr s56), hft, upd_same, by (first | lia | omega), fun _ H7 fo as s7 _ hfo hfl _ _ => ?_, fun z => (by rw [hrb] at z; cases z)⟩
    have s57 := s56.tr s7
    have PFs := pf_mk hft hrb
    obtain ⟨nss, en⟩ : ∃ nss, pcs (stp ps bs) q.toNat q.toNat = nss := ⟨_, rfl⟩
    rw [en] at hfl PFs
    obtain ⟨zs, ez⟩ : ∃ zs, as.map V.ref = zs := ⟨_, rfl⟩
    rw [ez] at hfo hfl
    have hzl := hfl.length
    have e7 : E6 K CT H7 sc lp p l2 ls fo ns q xs ps bs zs nss := ⟨(s1.tr (s2.tr s57)).seq hS, (s2.tr s57) _ _ hlp, hpv.same (s2.tr s57), tw.same (s6.tr s7), s57 _ _ hls, hfo, hfl⟩
    -- each once
    refine ⟨_, rfl, _, rfl, _, rfl, p, l2, ls, fo, q, xs, zs, ps, bs, nss, rfl, e7.tw, e7.pv, hft, e7.ls, e7.fo, e7.fl, PFs.part, PFs.n24, PFs.f24, fun g hg => ⟨(PFs.gs g hg).1, (PFs.gs g hg).2.1⟩, fun b hb => ⟨hbs b hb, PFs.ends b hb⟩, fun H8 s8 => ⟨_, rfl, iteF ?_⟩⟩
    have e8 := e7.same s8
    -- one, other
    refine ⟨_, rfl, sc, ns, 1, rfl, e8.sc, _, rfl, _, _, rfl, rfl, (by (first | lia | omega)), ?_⟩
    obtain ⟨x, ex, hx⟩ : ∃ x, ns.getD 1 0 % q = x ∧ (0 ≤ x ∧ x < q) := ⟨_, rfl, Int.emod_nonneg _ (by (first | lia | omega)), Int.emod_lt_of_pos _ (by (first | lia | omega))⟩
    obtain ⟨y, ey, hy⟩ : ∃ y, ns.getD 2 0 % q = y ∧ (0 ≤ y ∧ y < q) := ⟨_, rfl, Int.emod_nonneg _ (by (first | lia | omega)), Int.emod_lt_of_pos _ (by (first | lia | omega))⟩
    refine ⟨fun σ' H' => σ' = [some (.ref sc), some (.int q), some (.ref lp), some (.ref ls), some (.ref p), some (.ref fo), some (.int x), some (.int y), none, none, none] ∧ H' = H8, ?_, ?_⟩
    rotate_left
    · exact ⟨_, rfl, sc, ns, 2, rfl, e8.sc, _, rfl, _, _, rfl, rfl, (by (first | lia | omega)), by rw [← ex, ← ey]; rfl, rfl⟩
    rintro σ8 H8' ⟨rfl, rfl⟩
    -- alike
    refine ⟨_, rfl, fo, rfl, ⟨_, SqL.of e8.fo⟩, fun D hD => comp_ext (n := nss.length) hD (fun i => ((List.range i).filter (selP nss x y)).map fun k => zs.getD k .non) rfl (fun i hi => ?_) (fun i H9 hi sm hD2 => ?_) (fun H9 s9 hD9 => ?_)⟩
    · rw [List.length_map]
      refine small1000 (Nat.le_trans (List.length_filter_le _ _) ?_)
      rw [List.length_range]
      have := PFs.n24
      (first | lia | omega)
    · have e9 := e8.same sm
      obtain ⟨z, hz⟩ : ∃ z, zs[i]? = some z := ⟨_, List.getElem?_eq_getElem (by (first | lia | omega))⟩
      obtain ⟨g, hg, a, rfl, hag⟩ := e9.fl.get hz
      refine ⟨⟨_, _, SqL.of e9.fo, hz⟩, fun K1 K2 k1 k2 x' H' yy => ?_⟩
      obtain ⟨rfl, e⟩ := yy
      have ex' := e _ (SqL.of e9.fo)
      rw [hz] at ex'
      cases ex'
      have ep : selP nss x y i = (g.contains x && g.contains y) := by
        unfold selP
        rw [List.getD_eq_getElem?_getD, hg]
        rfl
      have ezi : zs.getD i .non = V.ref a := by rw [List.getD_eq_getElem?_getD, hz]; rfl
      have key : ∀ b : Bool, b = selP nss x y i → if b = true then K1 (V.ref a) H' else K2 H' := fun b hb => by
        subst hb
        refine ite2 (fun h => k1 _ _ Same.rfl' ?_) (fun h => k2 _ Same.rfl' ?_)
        · rw [List.range_succ, List.filter_append, List.filter_cons, if_pos h, List.map_append, ← ezi]
          rfl
        · rw [List.range_succ, List.filter_append, List.filter_cons, if_neg h, List.filter_nil, List.append_nil]
      refine ⟨rfl, _, rfl, _, rfl, a, _, rfl, .inl (SqL.of hag), rfl, flat_ints _, _, rfl, ?_⟩
      rw [show (if false = true then !inV (V.int x) (g.map V.int) else inV (V.int x) (g.map V.int)) = g.contains x from by rw [if_neg Bool.false_ne_true, inV_ints]]
      refine ite2 (fun h => ?_) (fun h => ?_)
      · refine ⟨_, rfl, _, rfl, a, _, rfl, .inl (SqL.of hag), rfl, flat_ints _, _, rfl, ?_⟩
        rw [show (if false = true then !inV (V.int y) (g.map V.int) else inV (V.int y) (g.map V.int)) = g.contains y from by rw [if_neg Bool.false_ne_true, inV_ints]]
        have := key (g.contains y) (by rw [ep, h, Bool.true_and])
        refine ite2 (fun h2 => ⟨_, rfl, ?_⟩) (fun h2 => ?_)
        · rw [if_pos h2] at this
          exact this
        · rw [if_neg h2] at this
          exact this
      · have := key false (by rw [ep, Bool.eq_false_iff.mpr h, Bool.false_and])
        exact iteF this
    refine ⟨⟨_, SqL.of (s9 _ _ e8.fo), by (first | lia | omega)⟩, ?_⟩
    have e9 := e8.same s9
    refine ⟨by show 0 ≤ sizeLine; decide, fun nl hnl => ?_⟩
    have s10 : Same H9 (upd H9 nl (.lst [])) := Same.rfl'.new hnl
    have hLsel := ls_sel (e9.fl.same s10) (l := (List.range nss.length).filter (selP nss x y)) fun k hk => List.mem_range.mp (List.mem_filter.mp hk).1
    have hnil : LI (upd H9 nl (.lst [])) nl [] := upd_same
    refine ⟨_, _, den_lists (s10 _ _ hD9) hLsel, den_ints hnil, sh_lists _, sh_ints _, ?_⟩
    have e10 := e9.same s10
    obtain ⟨nb, enb, hal⟩ : ∃ nb : Bool, PyData.eqv (.list ((((List.range nss.length).filter (selP nss x y)).map fun k => nss.getD k []).map ld)) (.list (([] : List Int).map .int)) = nb ∧ ((!nb) = true ↔ RE (bs.map (eb ps)) x y) := ⟨_, eqv_nilL _, sel_iff.trans (PFs.one x y hx)⟩
    rw [enb]
    have Sy : Sym (stp ps bs) q.toNat := stp_sym hok hbs
    -- the way
    refine ⟨fun σ' H' => σ' = [some (.ref sc), some (.int q), some (.ref lp), some (.ref ls), some (.ref p), some (.ref fo), some (.int x), some (.int y), some (.bl (!nb)), none, none] ∧ E6 K CT H' sc lp p l2 ls fo ns q xs ps bs zs nss, ?_, ?_⟩
    rotate_left
    · refine ⟨_, rfl, _, rfl, ls, _, rfl, .inl (SqL.of e10.ls), fun lc hlc => ?_⟩
      have t1 : Same (upd H9 nl (.lst [])) (upd (upd H9 nl (.lst [])) lc (.lst (bs.map V.int))) := Same.rfl'.new hlc
      have e11 := e10.same t1
      refine ⟨_, rfl, _, rfl, p, l2, q, xs, ps, lc, bs, x, y, rfl, e11.tw, e11.pv, hft, upd_same, by (first | lia | omega), fun _ _ _ => ⟨fun hn H12 s12 => ?_, fun H12 d tl s12 _ hd hW => ?_⟩, fun z => (by rw [hrb] at z; cases z), fun _ z => absurd ⟨hx, hy⟩ z⟩
      · have : (!nb) = false := Bool.eq_false_iff.mpr fun h => by
          obtain ⟨m, hm⟩ := (re_rln Sy hx).mp (hal.mp h)
          exact hn m hm
        refine ⟨_, rfl, rfl, _, rfl, ?_⟩
        refine iteF' ?_ ⟨rfl, e11.same s12⟩
        rw [show decide (V.bl (!decide (V.non = V.non)) = V.bl (!nb)) = true from by rw [this]; rfl]
        rfl
      · have : (!nb) = true := hal.mpr ((re_rln Sy hx).mpr ⟨_, hW.rl⟩)
        refine ⟨_, rfl, rfl, _, rfl, ?_⟩
        refine iteF' ?_ ⟨rfl, e11.same s12⟩
        rw [show decide (V.bl (!decide (V.ref d = V.non)) = V.bl (!nb)) = true from by rw [this]; rfl]
        rfl
    rintro σ12 H12 ⟨rfl, e12⟩
    -- the ring
    refine ⟨fun σ' H' => ∃ rg, σ' = [some (.ref sc), some (.int q), some (.ref lp), some (.ref ls), some (.ref p), some (.ref fo), some (.int x), some (.int y), some (.bl (!nb)), some rg, none] ∧ E6 K CT H' sc lp p l2 ls fo ns q xs ps bs zs nss ∧
      ((rg = .non ∧ ∀ j, ¬ Clo ps bs j) ∨ ∃ d fs, rg = .ref d ∧ LI H' d fs ∧ Ring ps bs q fs ∧ ∃ j, Clo ps bs j), ?_, ?_⟩
    rotate_left
    · refine ⟨_, rfl, _, rfl, ls, _, rfl, .inl (SqL.of e12.ls), fun lc hlc => ?_⟩
      have t1 : Same H12 (upd H12 lc (.lst (bs.map V.int))) := Same.rfl'.new hlc
      have e13 := e12.same t1
      refine ⟨p, l2, q, xs, ps, lc, bs, rfl, e13.tw, e13.pv, hft, upd_same, by (first | lia | omega), fun _ => ⟨fun hn H14 s14 => ?_, fun H14 d fs s14 _ hd hR hC => ?_⟩, fun z => (by rw [hrb] at z; cases z)⟩
      · exact ⟨_, rfl, e13.same s14, .inl ⟨rfl, hn⟩⟩
      · exact ⟨_, rfl, e13.same s14, .inr ⟨d, fs, rfl, hd, hR, hC⟩⟩
    rintro σ14 H14 ⟨rg, rfl, e14, hrg⟩
    -- counts
    refine ⟨_, rfl, _, rfl, _, rfl, p, l2, ls, fo, q, xs, zs, ps, bs, nss, rfl, e14.tw, e14.pv, hft, e14.ls, by (first | lia | omega), e14.fo, e14.fl, PFs.gs, hbs, fun H15 s15 => ?_⟩
    have e15 := e14.same s15
    refine ⟨rfl, _, rfl, rfl, _, rfl, ?_⟩
    have hcnt := PFs.cnt
    rcases hrg with ⟨rfl, hn⟩ | ⟨d, fs, rfl, hd, hR, j, hj⟩
    · have z0 : nclo (bs.map (eb ps)) = 0 := nclo_zero.mpr fun j hj => hn j (cloE_iff.mp hj)
      rw [dec_int, decide_eq_true (show cntG ps bs nss = 0 by (first | lia | omega))]
      refine iteF ⟨_, rfl, _, rfl, iteF ?_⟩
      -- for bridge in some
      refine ⟨_, rfl, ls, rfl, ⟨_, SqL.of e15.ls⟩, for_list (K := K) (a := ls) (xs := bs.map V.int) (fun j σ H' => E6 K CT H' sc lp p l2 ls fo ns q xs ps bs zs nss ∧ ∃ u, σ = [some (.ref sc), some (.int q), some (.ref lp), some (.ref ls), some (.ref p), some (.ref fo), some (.int x), some (.int y), some (.bl (!nb)), some .non, u])
        ⟨e15, _, rfl⟩ (fun j σ H' _ ⟨e, _⟩ => SqL.of e.ls) ?_ ?_⟩
      · rintro j v σ H16 hj ⟨e16, u, rfl⟩
        rw [List.getElem?_map] at hj
        obtain ⟨b, hb, rfl⟩ := Option.map_eq_some_iff.mp hj
        have hbm := List.mem_of_getElem? hb
        obtain ⟨b0, b1⟩ := hbs b hbm
        refine ⟨_, rfl, _, rfl, _, rfl, p, l2, ls, q, b, xs, ps, bs, rfl, e16.tw, e16.pv, hft, e16.ls, by (first | lia | omega), hrb, fun H17 d as' s17 hd hl => ?_⟩
        have e17 := e16.same s17
        refine ⟨d, _, rfl, .inl (SqL.of hd), _, rfl, fo, _, rfl, .inl (SqL.of e17.fo), _, _, rfl, rfl, rfl, _, rfl, ?_⟩
        have hmore := pcs_more hft hrb hn hbm
        rw [en, ← hl.length, ← hzl] at hmore
        rw [dec_int, decide_eq_true (show ((as'.map V.ref).length : Int) = (zs.length : Int) + 1 by (first | lia | omega))]
        refine iteF ?_
        -- the way between its ends
        refine ⟨_, rfl, _, rfl, ls, _, rfl, .inl (SqL.of e17.ls), fun lc hlc => ?_⟩
        have t1 : Same H17 (upd H17 lc (.lst (bs.map V.int))) := Same.rfl'.new hlc
        have e18 := e17.same t1
        have hlt : b.toNat < xs.length := by (first | lia | omega)
        have hv : xs[b.toNat]? = some xs[b.toNat] := List.getElem?_eq_getElem hlt
        obtain ⟨pp, hpp, a, ea, hat⟩ := e18.pv.get hv
        have eat : atI xs b = some (.ref a) := by
          have := atI_nat hv
          rw [show ((b.toNat : Nat) : Int) = b by (first | lia | omega), ea] at this
          exact this
        have epp : eb ps b = pp := getD_at hpp
        have hokp := hok pp (List.mem_of_getElem? hpp)
        have hokr := hokp
        unfold okPair at hokr
        simp only [Bool.and_eq_true, decide_eq_true_eq] at hokr
        refine ⟨_, rfl, _, rfl, lp, _, _, _, rfl, rfl, SqL.of e18.lp, eat, a, _, _, _, rfl, rfl, SqT.of hat, rfl, ?_⟩
        refine ⟨_, rfl, _, rfl, lp, _, _, _, rfl, rfl, SqL.of e18.lp, eat, a, _, _, _, rfl, rfl, SqT.of hat, rfl, ?_⟩
        refine ⟨p, l2, q, xs, ps, lc, bs, pp.1, pp.2, rfl, e18.tw, e18.pv, hft, upd_same, by (first | lia | omega), fun _ _ _ => ⟨fun hn2 H19 s19 => ?_, fun H19 d2 tl s19 _ hd2 hW => ?_⟩, fun z => (by rw [hrb] at z; cases z), fun _ z => absurd ⟨hokr.1, hokr.2.1⟩ z⟩
        · refine absurd ?_ (hn2 1)
          exact .step .refl (mem_stp.mpr ⟨hbm, .inl ⟨by rw [epp]; (first | lia | omega), by rw [epp]⟩⟩)
        · rw [← epp] at hW hokp
          have hone := way_one (risesB_iff.mp hrb).1 hokp hbm hn hW
          rw [hone] at hd2
          have e19 := e18.same s19
          refine ⟨_, rfl, by show 1 ≤ sizeLine; decide, fun d3 hd3 => ?_⟩
          have t2 : Same H19 (upd H19 d3 (.lst [V.int b])) := Same.rfl'.new hd3
          have hl3 : LI (upd H19 d3 (.lst [V.int b])) d3 [b] := upd_same
          refine ⟨_, _, den_ints (t2 _ _ hd2), den_ints hl3, sh_ints _, sh_ints _, _, rfl, ?_⟩
          rw [eqv_lints, decide_eq_true rfl]
          exact iteF ⟨e19.same t2, _, rfl⟩
      · rintro σ H16 ⟨e16, u, rfl⟩
        refine ⟨_, rfl, _, rfl, ls, _, rfl, .inl (SqL.of e16.ls), fun lc hlc => ?_⟩
        have t1 : Same H16 (upd H16 lc (.lst (bs.map V.int))) := Same.rfl'.new hlc
        have e17 := e16.same t1
        refine ⟨p, l2, q, xs, ps, lc, bs, rfl, e17.tw, e17.pv, hft, upd_same, by (first | lia | omega), fun _ H18 s18 => ?_, fun z => (by rw [hrb] at z; cases z)⟩
        have e18 := e17.same s18
        refine ⟨_, rfl, ls, _, rfl, .inl (SqL.of e18.ls), _, rfl, _, _, rfl, rfl, rfl, rfl, ?_⟩
        have hnum := PFs.num
        have e1 : decide ((pcs (stp ps bs) q.toNat q.toNat).length = 1) = decide ((((bs.map V.int).length : Nat) : Int) = q - 1) := by
          rw [en, List.length_map, decide_eq_decide]
          (first | lia | omega)
        rw [dec_int, e1, decide_eq_true rfl]
        exact kQ _
    · have z0 : cntG ps bs nss ≠ 0 := fun z => by
        have : nclo (bs.map (eb ps)) = 0 := by (first | lia | omega)
        exact nclo_zero.mp this j (cloE_iff.mpr hj)
      rw [dec_int, decide_eq_false z0]
      refine iteF ⟨_, rfl, _, rfl, iteT ?_⟩
      obtain ⟨a, RO⟩ := ring_ok hq2 hok hrb hR
      have hd15 : LI H15 d fs := s15 _ _ hd
      refine ⟨_, rfl, d, rfl, ⟨_, SqL.of hd15⟩, for_list (K := K) (a := d) (xs := fs.map V.int) (fun j σ H' => E6 K CT H' sc lp p l2 ls fo ns q xs ps bs zs nss ∧ LI H' d fs ∧ ∃ u, σ = [some (.ref sc), some (.int q), some (.ref lp), some (.ref ls), some (.ref p), some (.ref fo), some (.int x), some (.int y), some (.bl (!nb)), some (.ref d), u])
        ⟨e15, hd15, _, rfl⟩ (fun j σ H' _ ⟨_, e, _⟩ => SqL.of e) ?_ ?_⟩
      · rintro j v σ H16 hj ⟨e16, hd16, u, rfl⟩
        rw [List.getElem?_map] at hj
        obtain ⟨b, hb, rfl⟩ := Option.map_eq_some_iff.mp hj
        have hbm := List.mem_of_getElem? hb
        refine ⟨_, rfl, _, rfl, _, rfl, p, l2, ls, q, b, xs, ps, bs, rfl, e16.tw, e16.pv, hft, e16.ls, by (first | lia | omega), hrb, fun H17 d2 as' s17 hd2 hl => ?_⟩
        have e17 := e16.same s17
        rw [pcs_ring hft hrb RO hbm, en] at hl
        refine ⟨_, rfl, _, _, den_lists hd2 hl, den_lists e17.fo e17.fl, sh_lists _, sh_lists _, _, rfl, ?_⟩
        rw [eqv_lists']
        exact iteF ⟨e17, s17 _ _ hd16, _, rfl⟩
      · rintro σ H16 ⟨e16, hd16, u, rfl⟩
        exact kQ _
end
end K06
namespace K06
open PySem L2 XM
theorem all_mk {l : PySem.W.OpenLaw} {w : World} {K : PySem.W.Frag} {h : Heap} {mg : Str → Option Value} {fa CE CS CQ CT : Addr} {t_aMQ t_aMB : Tok} {f60 f61 f1 f2 f3 f4 f5 f6 f7 f8 f9 f10 f11 f12 f13 f14 f15 f16 f17 f18 f19 f20 f21 f22 f23 f24 f25 f26 f27 f28 f29 : Addr} {od60 an60 od61 an61 od1 an1 od2 an2 od3 an3 od4 an4 od5 an5 od6 an6 od7 an7 od8 an8 od9 an9 od10 an10 od11 an11 od12 an12 od13 an13 od14 an14 od15 an15 od16 an16 od17 an17 od18 an18 od19 an19 od20 an20 od21 an21 od22 an22 od23 an23 od24 an24 od25 an25 od26 an26 od27 an27 od28 an28 od29 an29 : Option Addr} {sl60 sl61 sl1 sl2 sl3 sl4 sl5 sl6 sl7 sl8 sl9 sl10 sl11 sl12 sl13 sl14 sl15 sl16 sl17 sl18 sl19 sl20 sl21 sl22 sl23 sl24 sl25 sl26 sl27 sl28 sl29 : Array (Option Value)} {oc60 kV60 dc60 pm60 cd60 ct60 oc61 kV61 dc61 pm61 cd61 ct61 oc1 kV1 dc1 pm1 cd1 ct1 oc2 kV2 dc2 pm2 cd2 ct2 oc3 kV3 dc3 pm3 cd3 ct3 oc4 kV4 dc4 pm4 cd4 ct4 oc5 kV5 dc5 pm5 cd5 ct5 oc6 kV6 dc6 pm6 cd6 ct6 oc7 kV7 dc7 pm7 cd7 ct7 oc8 kV8 dc8 pm8 cd8 ct8 oc9 kV9 dc9 pm9 cd9 ct9 oc10 kV10 dc10 pm10 cd10 ct10 oc11 kV11 dc11 pm11 cd11 ct11 oc12 kV12 dc12 pm12 cd12 ct12 oc13 kV13 dc13 pm13 cd13 ct13 oc14 kV14 dc14 pm14 cd14 ct14 oc15 kV15 dc15 pm15 cd15 ct15 oc16 kV16 dc16 pm16 cd16 ct16 oc17 kV17 dc17 pm17 cd17 ct17 oc18 kV18 dc18 pm18 cd18 ct18 oc19 kV19 dc19 pm19 cd19 ct19 oc20 kV20 dc20 pm20 cd20 ct20 oc21 kV21 dc21 pm21 cd21 ct21 oc22 kV22 dc22 pm22 cd22 ct22 oc23 kV23 dc23 pm23 cd23 ct23 oc24 kV24 dc24 pm24 cd24 ct24 oc25 kV25 dc25 pm25 cd25 ct25 oc26 kV26 dc26 pm26 cd26 ct26 oc27 kV27 dc27 pm27 cd27 ct27 oc28 kV28 dc28 pm28 cd28 ct28 oc29 kV29 dc29 pm29 cd29 ct29 : Value} (X : K.In h) (G : h.Ns mainGlobals mg) (hfa : mg "law" = some (.ref fa))
    (aCE : PySem.W.nsIn K mainGlobals "BadParting" = some (some (.ref CE)))
    (aCS : PySem.W.nsIn K mainGlobals "BadSome" = some (some (.ref CS)))
    (aCQ : PySem.W.nsIn K mainGlobals "BadQuarters" = some (some (.ref CQ)))
    (aCT : PySem.W.nsIn K mainGlobals "Town" = some (some (.ref CT)))
    (aMQ : PySem.W.nsIn K mainGlobals "MOST_QUARTERS" = some (some (.int 24 t_aMQ)))
    (aMB : PySem.W.nsIn K mainGlobals "MOST_BRIDGES" = some (some (.int 60 t_aMB)))
    (a60 : PySem.W.nsIn K mainGlobals "way_to" = some (some (.ref f60)))
    (l60 : K.lookup f60 = some ⟨oc60, od60, .func (PySem.W.fnOf "way_to" "way_to" (defArgs sWayTo) (defBody sWayTo) (defScope sWayTo) .none kV60 dc60 pm60 an60 cd60 ct60), sl60⟩)
    (c60 : PySem.W.codeIn K cd60 "way_to" = true)
    (k60 : PySem.W.keepIn K (.ref f60) = true)
    (a61 : PySem.W.nsIn K mainGlobals "put_together" = some (some (.ref f61)))
    (l61 : K.lookup f61 = some ⟨oc61, od61, .func (PySem.W.fnOf "put_together" "put_together" (defArgs sTogether) (defBody sTogether) (defScope sTogether) .none kV61 dc61 pm61 an61 cd61 ct61), sl61⟩)
    (c61 : PySem.W.codeIn K cd61 "put_together" = true)
    (k61 : PySem.W.keepIn K (.ref f61) = true)
    (a1 : PySem.W.nsIn K mainGlobals "is_quarter" = some (some (.ref f1)))
    (l1 : K.lookup f1 = some ⟨oc1, od1, .func (PySem.W.fnOf "is_quarter" "is_quarter" (defArgs sIsq) (defBody sIsq) (defScope sIsq) .none kV1 dc1 pm1 an1 cd1 ct1), sl1⟩)
    (c1 : PySem.W.codeIn K cd1 "is_quarter" = true)
    (k1 : PySem.W.keepIn K (.ref f1) = true)
    (a2 : PySem.W.nsIn K mainGlobals "joins_two" = some (some (.ref f2)))
    (l2 : K.lookup f2 = some ⟨oc2, od2, .func (PySem.W.fnOf "joins_two" "joins_two" (defArgs sJoin) (defBody sJoin) (defScope sJoin) .none kV2 dc2 pm2 an2 cd2 ct2), sl2⟩)
    (c2 : PySem.W.codeIn K cd2 "joins_two" = true)
    (k2 : PySem.W.keepIn K (.ref f2) = true)
    (a3 : PySem.W.nsIn K mainGlobals "rises" = some (some (.ref f3)))
    (l3 : K.lookup f3 = some ⟨oc3, od3, .func (PySem.W.fnOf "rises" "rises" (defArgs sRises) (defBody sRises) (defScope sRises) .none kV3 dc3 pm3 an3 cd3 ct3), sl3⟩)
    (c3 : PySem.W.codeIn K cd3 "rises" = true)
    (k3 : PySem.W.keepIn K (.ref f3) = true)
    (a4 : PySem.W.nsIn K mainGlobals "rises_below" = some (some (.ref f4)))
    (l4 : K.lookup f4 = some ⟨oc4, od4, .func (PySem.W.fnOf "rises_below" "rises_below" (defArgs sRisesB) (defBody sRisesB) (defScope sRisesB) .none kV4 dc4 pm4 an4 cd4 ct4), sl4⟩)
    (c4 : PySem.W.codeIn K cd4 "rises_below" = true)
    (k4 : PySem.W.keepIn K (.ref f4) = true)
    (a5 : PySem.W.nsIn K mainGlobals "check_town" = some (some (.ref f5)))
    (l5 : K.lookup f5 = some ⟨oc5, od5, .func (PySem.W.fnOf "check_town" "check_town" (defArgs sCheck) (defBody sCheck) (defScope sCheck) .none kV5 dc5 pm5 an5 cd5 ct5), sl5⟩)
    (c5 : PySem.W.codeIn K cd5 "check_town" = true)
    (k5 : PySem.W.keepIn K (.ref f5) = true)
    (a6 : PySem.W.nsIn K mainGlobals "check_some" = some (some (.ref f6)))
    (l6 : K.lookup f6 = some ⟨oc6, od6, .func (PySem.W.fnOf "check_some" "check_some" (defArgs sCheckS) (defBody sCheckS) (defScope sCheckS) .none kV6 dc6 pm6 an6 cd6 ct6), sl6⟩)
    (c6 : PySem.W.codeIn K cd6 "check_some" = true)
    (k6 : PySem.W.keepIn K (.ref f6) = true)
    (a7 : PySem.W.nsIn K mainGlobals "each_once" = some (some (.ref f7)))
    (l7 : K.lookup f7 = some ⟨oc7, od7, .func (PySem.W.fnOf "each_once" "each_once" (defArgs sOnce) (defBody sOnce) (defScope sOnce) .none kV7 dc7 pm7 an7 cd7 ct7), sl7⟩)
    (c7 : PySem.W.codeIn K cd7 "each_once" = true)
    (k7 : PySem.W.keepIn K (.ref f7) = true)
    (a8 : PySem.W.nsIn K mainGlobals "are_groups" = some (some (.ref f8)))
    (l8 : K.lookup f8 = some ⟨oc8, od8, .func (PySem.W.fnOf "are_groups" "are_groups" (defArgs sGroups) (defBody sGroups) (defScope sGroups) .none kV8 dc8 pm8 an8 cd8 ct8), sl8⟩)
    (c8 : PySem.W.codeIn K cd8 "are_groups" = true)
    (k8 : PySem.W.keepIn K (.ref f8) = true)
    (a9 : PySem.W.nsIn K mainGlobals "check_some_quarters" = some (some (.ref f9)))
    (l9 : K.lookup f9 = some ⟨oc9, od9, .func (PySem.W.fnOf "check_some_quarters" "check_some_quarters" (defArgs sCheckSQ) (defBody sCheckSQ) (defScope sCheckSQ) .none kV9 dc9 pm9 an9 cd9 ct9), sl9⟩)
    (c9 : PySem.W.codeIn K cd9 "check_some_quarters" = true)
    (k9 : PySem.W.keepIn K (.ref f9) = true)
    (a10 : PySem.W.nsIn K mainGlobals "check_quarter" = some (some (.ref f10)))
    (l10 : K.lookup f10 = some ⟨oc10, od10, .func (PySem.W.fnOf "check_quarter" "check_quarter" (defArgs sCheckQ) (defBody sCheckQ) (defScope sCheckQ) .none kV10 dc10 pm10 an10 cd10 ct10), sl10⟩)
    (c10 : PySem.W.codeIn K cd10 "check_quarter" = true)
    (k10 : PySem.W.keepIn K (.ref f10) = true)
    (a11 : PySem.W.nsIn K mainGlobals "steps_over" = some (some (.ref f11)))
    (l11 : K.lookup f11 = some ⟨oc11, od11, .func (PySem.W.fnOf "steps_over" "steps_over" (defArgs sSteps) (defBody sSteps) (defScope sSteps) .none kV11 dc11 pm11 an11 cd11 ct11), sl11⟩)
    (c11 : PySem.W.codeIn K cd11 "steps_over" = true)
    (k11 : PySem.W.keepIn K (.ref f11) = true)
    (a12 : PySem.W.nsIn K mainGlobals "reached_from" = some (some (.ref f12)))
    (l12 : K.lookup f12 = some ⟨oc12, od12, .func (PySem.W.fnOf "reached_from" "reached_from" (defArgs sReach) (defBody sReach) (defScope sReach) .none kV12 dc12 pm12 an12 cd12 ct12), sl12⟩)
    (c12 : PySem.W.codeIn K cd12 "reached_from" = true)
    (k12 : PySem.W.keepIn K (.ref f12) = true)
    (a13 : PySem.W.nsIn K mainGlobals "pieces_of" = some (some (.ref f13)))
    (l13 : K.lookup f13 = some ⟨oc13, od13, .func (PySem.W.fnOf "pieces_of" "pieces_of" (defArgs sPieces) (defBody sPieces) (defScope sPieces) .none kV13 dc13 pm13 an13 cd13 ct13), sl13⟩)
    (c13 : PySem.W.codeIn K cd13 "pieces_of" = true)
    (k13 : PySem.W.keepIn K (.ref f13) = true)
    (a14 : PySem.W.nsIn K mainGlobals "joins_all" = some (some (.ref f14)))
    (l14 : K.lookup f14 = some ⟨oc14, od14, .func (PySem.W.fnOf "joins_all" "joins_all" (defArgs sJoins) (defBody sJoins) (defScope sJoins) .none kV14 dc14 pm14 an14 cd14 ct14), sl14⟩)
    (c14 : PySem.W.codeIn K cd14 "joins_all" = true)
    (k14 : PySem.W.keepIn K (.ref f14) = true)
    (a15 : PySem.W.nsIn K mainGlobals "way_between" = some (some (.ref f15)))
    (l15 : K.lookup f15 = some ⟨oc15, od15, .func (PySem.W.fnOf "way_between" "way_between" (defArgs sBetween) (defBody sBetween) (defScope sBetween) .none kV15 dc15 pm15 an15 cd15 ct15), sl15⟩)
    (c15 : PySem.W.codeIn K cd15 "way_between" = true)
    (k15 : PySem.W.keepIn K (.ref f15) = true)
    (a16 : PySem.W.nsIn K mainGlobals "way_over" = some (some (.ref f16)))
    (l16 : K.lookup f16 = some ⟨oc16, od16, .func (PySem.W.fnOf "way_over" "way_over" (defArgs sOver) (defBody sOver) (defScope sOver) .none kV16 dc16 pm16 an16 cd16 ct16), sl16⟩)
    (c16 : PySem.W.codeIn K cd16 "way_over" = true)
    (k16 : PySem.W.keepIn K (.ref f16) = true)
    (a17 : PySem.W.nsIn K mainGlobals "ring_over" = some (some (.ref f17)))
    (l17 : K.lookup f17 = some ⟨oc17, od17, .func (PySem.W.fnOf "ring_over" "ring_over" (defArgs sRing) (defBody sRing) (defScope sRing) .none kV17 dc17 pm17 an17 cd17 ct17), sl17⟩)
    (c17 : PySem.W.codeIn K cd17 "ring_over" = true)
    (k17 : PySem.W.keepIn K (.ref f17) = true)
    (a18 : PySem.W.nsIn K mainGlobals "is_parting" = some (some (.ref f18)))
    (l18 : K.lookup f18 = some ⟨oc18, od18, .func (PySem.W.fnOf "is_parting" "is_parting" (defArgs sIsPart) (defBody sIsPart) (defScope sIsPart) .none kV18 dc18 pm18 an18 cd18 ct18), sl18⟩)
    (c18 : PySem.W.codeIn K cd18 "is_parting" = true)
    (k18 : PySem.W.keepIn K (.ref f18) = true)
    (a19 : PySem.W.nsIn K mainGlobals "part_places" = some (some (.ref f19)))
    (l19 : K.lookup f19 = some ⟨oc19, od19, .func (PySem.W.fnOf "part_places" "part_places" (defArgs sPlaces) (defBody sPlaces) (defScope sPlaces) .none kV19 dc19 pm19 an19 cd19 ct19), sl19⟩)
    (c19 : PySem.W.codeIn K cd19 "part_places" = true)
    (k19 : PySem.W.keepIn K (.ref f19) = true)
    (a20 : PySem.W.nsIn K mainGlobals "bridges_between" = some (some (.ref f20)))
    (l20 : K.lookup f20 = some ⟨oc20, od20, .func (PySem.W.fnOf "bridges_between" "bridges_between" (defArgs sBetw) (defBody sBetw) (defScope sBetw) .none kV20 dc20 pm20 an20 cd20 ct20), sl20⟩)
    (c20 : PySem.W.codeIn K cd20 "bridges_between" = true)
    (k20 : PySem.W.keepIn K (.ref f20) = true)
    (a21 : PySem.W.nsIn K mainGlobals "bridges_within" = some (some (.ref f21)))
    (l21 : K.lookup f21 = some ⟨oc21, od21, .func (PySem.W.fnOf "bridges_within" "bridges_within" (defArgs sWithin) (defBody sWithin) (defScope sWithin) .none kV21 dc21 pm21 an21 cd21 ct21), sl21⟩)
    (c21 : PySem.W.codeIn K cd21 "bridges_within" = true)
    (k21 : PySem.W.keepIn K (.ref f21) = true)
    (a22 : PySem.W.findIn K (.ref CT) "__init__" = some (some (.ref f22)))
    (l22 : K.lookup f22 = some ⟨oc22, od22, .func (PySem.W.fnOf "__init__" "Town.__init__" (defArgs sInit) (defBody sInit) (defScope sInit) .none kV22 dc22 pm22 an22 cd22 ct22), sl22⟩)
    (c22 : PySem.W.codeIn K cd22 "Town.__init__" = true)
    (k22 : PySem.W.keepIn K (.ref f22) = true)
    (a23 : PySem.W.nsIn K mainGlobals "_law_at" = some (some (.ref f23)))
    (l23 : K.lookup f23 = some ⟨oc23, od23, .func (PySem.W.fnOf "_law_at" "_law_at" (defArgs sAt) (defBody sAt) (defScope sAt) .none kV23 dc23 pm23 an23 cd23 ct23), sl23⟩)
    (c23 : PySem.W.codeIn K cd23 "_law_at" = true)
    (k23 : PySem.W.keepIn K (.ref f23) = true)
    (a24 : PySem.W.nsIn K mainGlobals "_law_town" = some (some (.ref f24)))
    (l24 : K.lookup f24 = some ⟨oc24, od24, .func (PySem.W.fnOf "_law_town" "_law_town" (defArgs sTown) (defBody sTown) (defScope sTown) .none kV24 dc24 pm24 an24 cd24 ct24), sl24⟩)
    (c24 : PySem.W.codeIn K cd24 "_law_town" = true)
    (k24 : PySem.W.keepIn K (.ref f24) = true)
    (a25 : PySem.W.nsIn K mainGlobals "_law_some" = some (some (.ref f25)))
    (l25 : K.lookup f25 = some ⟨oc25, od25, .func (PySem.W.fnOf "_law_some" "_law_some" (defArgs sSome) (defBody sSome) (defScope sSome) .none kV25 dc25 pm25 an25 cd25 ct25), sl25⟩)
    (c25 : PySem.W.codeIn K cd25 "_law_some" = true)
    (k25 : PySem.W.keepIn K (.ref f25) = true)
    (a26 : PySem.W.nsIn K mainGlobals "_law_each_once" = some (some (.ref f26)))
    (l26 : K.lookup f26 = some ⟨oc26, od26, .func (PySem.W.fnOf "_law_each_once" "_law_each_once" (defArgs sEach) (defBody sEach) (defScope sEach) .none kV26 dc26 pm26 an26 cd26 ct26), sl26⟩)
    (c26 : PySem.W.codeIn K cd26 "_law_each_once" = true)
    (k26 : PySem.W.keepIn K (.ref f26) = true)
    (a27 : PySem.W.nsIn K mainGlobals "_law_counts" = some (some (.ref f27)))
    (l27 : K.lookup f27 = some ⟨oc27, od27, .func (PySem.W.fnOf "_law_counts" "_law_counts" (defArgs sCounts) (defBody sCounts) (defScope sCounts) .none kV27 dc27 pm27 an27 cd27 ct27), sl27⟩)
    (c27 : PySem.W.codeIn K cd27 "_law_counts" = true)
    (k27 : PySem.W.keepIn K (.ref f27) = true)
    (a28 : PySem.W.nsIn K mainGlobals "_law_without" = some (some (.ref f28)))
    (l28 : K.lookup f28 = some ⟨oc28, od28, .func (PySem.W.fnOf "_law_without" "_law_without" (defArgs sWithout) (defBody sWithout) (defScope sWithout) .none kV28 dc28 pm28 an28 cd28 ct28), sl28⟩)
    (c28 : PySem.W.codeIn K cd28 "_law_without" = true)
    (k28 : PySem.W.keepIn K (.ref f28) = true)
    (a29 : PySem.W.nsIn K mainGlobals "law" = some (some (.ref f29)))
    (l29 : K.lookup f29 = some ⟨oc29, od29, .func (PySem.W.fnOf "law" "law" (defArgs sLaw) (defBody sLaw) (defScope sLaw) .none kV29 dc29 pm29 an29 cd29 ct29), sl29⟩)
    (c29 : PySem.W.codeIn K cd29 "law" = true)
    (k29 : PySem.W.keepIn K (.ref f29) = true)
    (i22 : PySem.W.isFn K (.ref f22) = true)
    (pg : PySem.W.plainGet K CT Str.empty = true)
    (hd : PySem.W.hasDictIn K CT = true)
    (po : PySem.W.plainOver K CT = true)
    (sa : PySem.W.findIn K (.ref CT) "__setattr__" = some (some (.builtin "object.__setattr__")))
    (mkT : PySem.W.makesIn K CT = true)
    (kT : PySem.W.keepIn K (.ref CT) = true)
    (nf0 : PySem.W.findIn K (.ref CT) "quarters" = some none)
    (nf1 : PySem.W.findIn K (.ref CT) "bridges" = some none)
    (eS : PySem.W.excIn K CS [.type "ValueError", .type "Exception", .type "BaseException", .type "object"] "ValueError.__new__" = true)
    (eQ : PySem.W.excIn K CQ [.type "ValueError", .type "Exception", .type "BaseException", .type "object"] "ValueError.__new__" = true)
    (eP : PySem.W.excIn K CE [.type "ValueError", .type "Exception", .type "BaseException", .type "object"] "ValueError.__new__" = true)
    (z0 : PySem.W.nsIn K mainGlobals "len" = some none)
    (z1 : PySem.W.nsIn K mainGlobals "list" = some none)
    (z2 : PySem.W.nsIn K mainGlobals "range" = some none)
    (z3 : PySem.W.nsIn K mainGlobals "isinstance" = some none)
    (z4 : PySem.W.nsIn K mainGlobals "int" = some none)
    (z5 : PySem.W.nsIn K mainGlobals "all" = some none)
    (z6 : PySem.W.nsIn K mainGlobals "zip" = some none)
    (z7 : PySem.W.nsIn K mainGlobals "set" = some none)
    (z8 : PySem.W.nsIn K mainGlobals "sum" = some none)
    (z9 : PySem.W.nsIn K mainGlobals "sorted" = some none)
    (z10 : PySem.W.nsIn K mainGlobals "enumerate" = some none)
    (z11 : PySem.W.nsIn K mainGlobals "max" = some none) :
    ∃ fd : FuncData, (∀ (s : Shared) (v : Value), BindsTo s fd ⟨[v], []⟩ [("script", v)]) ∧ ∀ base : Heap, K.In base → base.Ns mainGlobals mg → FnOk l.prog w K mg base CX0 7 fa fd ["script"] (spLaw K) := by
  have e := hfa.symm.trans (PySem.W.mg_of X G a29)
  cases e
  have T : Txt K mg CE CS CQ CT := ⟨PySem.W.mg_of X G aCS, PySem.W.mg_of X G aCQ, PySem.W.mg_of X G aCE, PySem.W.mg_of X G aCT, ⟨eS, PySem.F.excBase_ValueError⟩, ⟨eQ, PySem.F.excBase_ValueError⟩, ⟨eP, PySem.F.excBase_ValueError⟩, ⟨pg, hd, po, sa⟩, nf0, nf1, ⟨_, PySem.W.mg_of X G aMQ⟩, ⟨_, PySem.W.mg_of X G aMB⟩, PySem.W.mg_none_of X G z0, PySem.W.mg_none_of X G z1, PySem.W.mg_none_of X G z2, PySem.W.mg_none_of X G z3, PySem.W.mg_none_of X G z4, PySem.W.mg_none_of X G z5, PySem.W.mg_none_of X G z6, PySem.W.mg_none_of X G z7, PySem.W.mg_none_of X G z8, PySem.W.mg_none_of X G z9, PySem.W.mg_none_of X G z10, PySem.W.mg_none_of X G z11⟩
  have F60 := fun_mk (st := sWayTo) l60 c60 k60
  have B60 := F60.binds (ps := ["quarter", "came_by"]) fun _ _ _ _ _ _ us hl => len2 (fun _ _ => rfl) us hl
  have F61 := fun_mk (st := sTogether) l61 c61 k61
  have B61 := F61.binds (ps := ["lists"]) fun _ _ _ _ _ _ us hl => len1 (fun _ => rfl) us hl
  have F1 := fun_mk (st := sIsq) l1 c1 k1
  have B1 := F1.binds (ps := ["number", "quarters"]) fun _ _ _ _ _ _ us hl => len2 (fun _ _ => rfl) us hl
  have F2 := fun_mk (st := sJoin) l2 c2 k2
  have B2 := F2.binds (ps := ["one", "other", "quarters"]) fun _ _ _ _ _ _ us hl => len3 (fun _ _ _ => rfl) us hl
  have F3 := fun_mk (st := sRises) l3 c3 k3
  have B3 := F3.binds (ps := ["numbers"]) fun _ _ _ _ _ _ us hl => len1 (fun _ => rfl) us hl
  have F4 := fun_mk (st := sRisesB) l4 c4 k4
  have B4 := F4.binds (ps := ["numbers", "count"]) fun _ _ _ _ _ _ us hl => len2 (fun _ _ => rfl) us hl
  have F5 := fun_mk (st := sCheck) l5 c5 k5
  have B5 := F5.binds (ps := ["quarters", "bridges"]) fun _ _ _ _ _ _ us hl => len2 (fun _ _ => rfl) us hl
  have F6 := fun_mk (st := sCheckS) l6 c6 k6
  have B6 := F6.binds (ps := ["some", "bridges"]) fun _ _ _ _ _ _ us hl => len2 (fun _ _ => rfl) us hl
  have F7 := fun_mk (st := sOnce) l7 c7 k7
  have B7 := F7.binds (ps := ["lists"]) fun _ _ _ _ _ _ us hl => len1 (fun _ => rfl) us hl
  have F8 := fun_mk (st := sGroups) l8 c8 k8
  have B8 := F8.binds (ps := ["groups", "quarters", "fewest"]) fun _ _ _ _ _ _ us hl => len3 (fun _ _ _ => rfl) us hl
  have F9 := fun_mk (st := sCheckSQ) l9 c9 k9
  have B9 := F9.binds (ps := ["some", "quarters"]) fun _ _ _ _ _ _ us hl => len2 (fun _ _ => rfl) us hl
  have F10 := fun_mk (st := sCheckQ) l10 c10 k10
  have B10 := F10.binds (ps := ["number", "quarters"]) fun _ _ _ _ _ _ us hl => len2 (fun _ _ => rfl) us hl
  have F11 := fun_mk (st := sSteps) l11 c11 k11
  have B11 := F11.binds (ps := ["town", "some"]) fun _ _ _ _ _ _ us hl => len2 (fun _ _ => rfl) us hl
  have F12 := fun_mk (st := sReach) l12 c12 k12
  have B12 := F12.binds (ps := ["steps", "start"]) fun _ _ _ _ _ _ us hl => len2 (fun _ _ => rfl) us hl
  have F13 := fun_mk (st := sPieces) l13 c13 k13
  have B13 := F13.binds (ps := ["town", "some"]) fun _ _ _ _ _ _ us hl => len2 (fun _ _ => rfl) us hl
  have F14 := fun_mk (st := sJoins) l14 c14 k14
  have B14 := F14.binds (ps := ["town", "some"]) fun _ _ _ _ _ _ us hl => len2 (fun _ _ => rfl) us hl
  have F15 := fun_mk (st := sBetween) l15 c15 k15
  have B15 := F15.binds (ps := ["town", "some", "one", "other"]) fun _ _ _ _ _ _ us hl => len4 (fun _ _ _ _ => rfl) us hl
  have F16 := fun_mk (st := sOver) l16 c16 k16
  have B16 := F16.binds (ps := ["town", "some", "one", "other"]) fun _ _ _ _ _ _ us hl => len4 (fun _ _ _ _ => rfl) us hl
  have F17 := fun_mk (st := sRing) l17 c17 k17
  have B17 := F17.binds (ps := ["town", "some"]) fun _ _ _ _ _ _ us hl => len2 (fun _ _ => rfl) us hl
  have F18 := fun_mk (st := sIsPart) l18 c18 k18
  have B18 := F18.binds (ps := ["town", "parting"]) fun _ _ _ _ _ _ us hl => len2 (fun _ _ => rfl) us hl
  have F19 := fun_mk (st := sPlaces) l19 c19 k19
  have B19 := F19.binds (ps := ["parting"]) fun _ _ _ _ _ _ us hl => len1 (fun _ => rfl) us hl
  have F20 := fun_mk (st := sBetw) l20 c20 k20
  have B20 := F20.binds (ps := ["town", "parting"]) fun _ _ _ _ _ _ us hl => len2 (fun _ _ => rfl) us hl
  have F21 := fun_mk (st := sWithin) l21 c21 k21
  have B21 := F21.binds (ps := ["town", "quarters"]) fun _ _ _ _ _ _ us hl => len2 (fun _ _ => rfl) us hl
  have F22 := fun_mk (st := sInit) l22 c22 k22
  have B22 := F22.binds (ps := ["self", "quarters", "bridges"]) fun _ _ _ _ _ _ us hl => len3 (fun _ _ _ => rfl) us hl
  have F23 := fun_mk (st := sAt) l23 c23 k23
  have B23 := F23.binds (ps := ["script", "k"]) fun _ _ _ _ _ _ us hl => len2 (fun _ _ => rfl) us hl
  have F24 := fun_mk (st := sTown) l24 c24 k24
  have B24 := F24.binds (ps := ["script"]) fun _ _ _ _ _ _ us hl => len1 (fun _ => rfl) us hl
  have F25 := fun_mk (st := sSome) l25 c25 k25
  have B25 := F25.binds (ps := ["script", "many"]) fun _ _ _ _ _ _ us hl => len2 (fun _ _ => rfl) us hl
  have F26 := fun_mk (st := sEach) l26 c26 k26
  have B26 := F26.binds (ps := ["town", "some", "found"]) fun _ _ _ _ _ _ us hl => len3 (fun _ _ _ => rfl) us hl
  have F27 := fun_mk (st := sCounts) l27 c27 k27
  have B27 := F27.binds (ps := ["town", "some", "found"]) fun _ _ _ _ _ _ us hl => len3 (fun _ _ _ => rfl) us hl
  have F28 := fun_mk (st := sWithout) l28 c28 k28
  have B28 := F28.binds (ps := ["town", "some", "bridge"]) fun _ _ _ _ _ _ us hl => len3 (fun _ _ _ => rfl) us hl
  have F29 := fun_mk (st := sLaw) l29 c29 k29
  refine ⟨PySem.W.fnOf "law" "law" (defArgs sLaw) (defBody sLaw) (defScope sLaw) .none kV29 dc29 pm29 an29 cd29 ct29, fun s v => .of_eq rfl, fun base _ _ => ?_⟩
  have G60 := ok_wayTo (P := l.prog) (w := w) (base := base) T F60
  have G61 := ok_together (P := l.prog) (w := w) (base := base) T F61
  have G2 := ok_join (P := l.prog) (w := w) (base := base) F2 F1 B1 (PySem.W.mg_of X G a1)
  have G3 := ok_rises (P := l.prog) (w := w) (base := base) T F3
  have G4 := ok_risesB T F4 G3 B3 (PySem.W.mg_of X G a3) k3
  have G5 := ok_check T F5 G2 B2 (PySem.W.mg_of X G a2) k2
  have G6 := ok_checkS T F6 G4 B4 (PySem.W.mg_of X G a4) k4
  have G7 := ok_once T F7 G61 B61 (PySem.W.mg_of X G a61) k61
  have G8 := ok_groups T F8 G4 B4 (PySem.W.mg_of X G a4) k4 G7 B7 (PySem.W.mg_of X G a7) k7 G3 B3 (PySem.W.mg_of X G a3) k3
  have G9 := ok_checkSQ T F9 G4 B4 (PySem.W.mg_of X G a4) k4
  have G10 := ok_checkQ (P := l.prog) (w := w) (base := base) T F10 F1 B1 (PySem.W.mg_of X G a1)
  have G11 := ok_steps (P := l.prog) (w := w) (base := base) T F11
  have G12 := ok_reach (P := l.prog) (w := w) (base := base) T F12
  have G13 := ok_pieces T F13 G6 B6 (PySem.W.mg_of X G a6) k6 G11 B11 (PySem.W.mg_of X G a11) k11 G12 B12 (PySem.W.mg_of X G a12) k12
  have G14 := ok_joins T F14 G13 B13 (PySem.W.mg_of X G a13) k13
  have G15 := ok_between T F15 G11 B11 (PySem.W.mg_of X G a11) k11 G12 B12 (PySem.W.mg_of X G a12) k12 G60 B60 (PySem.W.mg_of X G a60) k60
  have G16 := ok_over T F16 G6 B6 (PySem.W.mg_of X G a6) k6 G10 B10 (PySem.W.mg_of X G a10) k10 G15 B15 (PySem.W.mg_of X G a15) k15
  have G17 := ok_ring T F17 G6 B6 (PySem.W.mg_of X G a6) k6 G15 B15 (PySem.W.mg_of X G a15) k15
  have G18 := ok_isPart T F18 G8 B8 (PySem.W.mg_of X G a8) k8
  have G19 := ok_places (P := l.prog) (w := w) (base := base) T F19
  have G20 := ok_betw T F20 G18 B18 (PySem.W.mg_of X G a18) k18 G19 B19 (PySem.W.mg_of X G a19) k19
  have G21 := ok_within T F21 G9 B9 (PySem.W.mg_of X G a9) k9
  have G22 := ok_init T F22 G5 B5 (PySem.W.mg_of X G a5) k5
  have G23 := ok_at (P := l.prog) (w := w) (base := base) T F23
  have G24 := ok_town T F24 G23 B23 (PySem.W.mg_of X G a23) k23
  have G25 := ok_some (P := l.prog) (w := w) (base := base) T F25
  have G26 := ok_each T F26 G20 B20 (PySem.W.mg_of X G a20) k20 G21 B21 (PySem.W.mg_of X G a21) k21
  have G27 := ok_counts T F27 G21 B21 (PySem.W.mg_of X G a21) k21
  have G28 := ok_without T F28 G13 B13 (PySem.W.mg_of X G a13) k13
  exact ok_law T F29 ⟨G22, B22, ⟨mkT, a22, i22, kT⟩, G23, B23, (PySem.W.mg_of X G a23), k23, G24, B24, (PySem.W.mg_of X G a24), k24, G25, B25, (PySem.W.mg_of X G a25), k25, G13, B13, (PySem.W.mg_of X G a13), k13, G26, B26, (PySem.W.mg_of X G a26), k26, G16, B16, (PySem.W.mg_of X G a16), k16, G17, B17, (PySem.W.mg_of X G a17), k17, G27, B27, (PySem.W.mg_of X G a27), k27, G28, B28, (PySem.W.mg_of X G a28), k28, G14, B14, (PySem.W.mg_of X G a14), k14⟩
theorem walk {l : PySem.W.OpenLaw} {q : Program} {loose : List Str} {XP : (Str → Option Value) → Heap → Prop} {YP : World → Heap → Prop} {d : DefRec} {K : Params → PySem.W.Frag} (hn : l.most = some 63) (hdf : d.params.defaults = [])
    (hY : ∀ (w : World) (h : Heap), YP w h → (K w.params).In h)
    (F : ∀ (w : World) (mg : Str → Option Value) (fa : Addr) (h : Heap), (K w.params).In h → h.Ns mainGlobals mg → mg d.name = some (.ref fa) →
      ∃ fd : FuncData, (∀ (s : Shared) (u : Value), BindsTo s fd ⟨[u], []⟩ [("script", u)]) ∧ ∀ base : Heap, (K w.params).In base → base.Ns mainGlobals mg → FnOk l.prog w (K w.params) mg base CX0 7 fa fd ["script"] (spLaw (K w.params))) :
    PySem.W.WalkO q loose XP YP l.row.toRowW d [] (fun f vs => PySem.call f vs) :=
  L2.walk_of (n := 63) (k := 7) (x := "script") (CX := fun _ => CX0) (sp := fun w => spLaw (K w.params)) hn (by decide) hdf ⟨rfl, by decide, by decide⟩ hY F (fun _ _ a ns hl _ hS => ⟨a, ns, rfl, hS, fun _ => rfl⟩) fun _ _ _ _ _ z => z
end K06
open PySem PySem.W PyProof.Rows
set_option maxRecDepth 100000 in
set_option maxHeartbeats 0 in
theorem PySem.Challenge.cw_bridgecrews_k06_whole_rings_and_pieces_holds : PySem.Challenge.rw_bridgecrews_k06_whole_rings_and_pieces.Holds := by
  w_on; o_law; k_head; (case hw => w_witness2)
  k_fill
  refine K06.walk (l := PySem.Challenge.rw_bridgecrews_k06_whole_rings_and_pieces) rfl rfl (fun w h Y => PySem.W.kIn_of Y) ?F
  case F =>
    intro w mg fa h KX G hmg
    refine' K06.all_mk KX G hmg ?aCE ?aCS ?aCQ ?aCT ?aMQ ?aMB ?a60 ?l60 ?c60 ?k60 ?a61 ?l61 ?c61 ?k61 ?a1 ?l1 ?c1 ?k1 ?a2 ?l2 ?c2 ?k2 ?a3 ?l3 ?c3 ?k3 ?a4 ?l4 ?c4 ?k4 ?a5 ?l5 ?c5 ?k5 ?a6 ?l6 ?c6 ?k6 ?a7 ?l7 ?c7 ?k7 ?a8 ?l8 ?c8 ?k8 ?a9 ?l9 ?c9 ?k9 ?a10 ?l10 ?c10 ?k10 ?a11 ?l11 ?c11 ?k11 ?a12 ?l12 ?c12 ?k12 ?a13 ?l13 ?c13 ?k13 ?a14 ?l14 ?c14 ?k14 ?a15 ?l15 ?c15 ?k15 ?a16 ?l16 ?c16 ?k16 ?a17 ?l17 ?c17 ?k17 ?a18 ?l18 ?c18 ?k18 ?a19 ?l19 ?c19 ?k19 ?a20 ?l20 ?c20 ?k20 ?a21 ?l21 ?c21 ?k21 ?a22 ?l22 ?c22 ?k22 ?a23 ?l23 ?c23 ?k23 ?a24 ?l24 ?c24 ?k24 ?a25 ?l25 ?c25 ?k25 ?a26 ?l26 ?c26 ?k26 ?a27 ?l27 ?c27 ?k27 ?a28 ?l28 ?c28 ?k28 ?a29 ?l29 ?c29 ?k29 ?i22 ?pg ?hd ?po ?sa ?mkT ?kT ?nf0 ?nf1 ?eS ?eQ ?eP ?z0 ?z1 ?z2 ?z3 ?z4 ?z5 ?z6 ?z7 ?z8 ?z9 ?z10 ?z11
    (case aCE => k_is)
    (case aCS => k_is)
    (case aCQ => k_is)
    (case aCT => k_is)
    (case aMQ => k_is)
    (case aMB => k_is)
    (case a60 => k_is)
    (case l60 => k_is)
    (case c60 => k_is)
    (case k60 => k_is)
    (case a61 => k_is)
    (case l61 => k_is)
    (case c61 => k_is)
    (case k61 => k_is)
    (case a1 => k_is)
    (case l1 => k_is)
    (case c1 => k_is)
    (case k1 => k_is)
    (case a2 => k_is)
    (case l2 => k_is)
    (case c2 => k_is)
    (case k2 => k_is)
    (case a3 => k_is)
    (case l3 => k_is)
    (case c3 => k_is)
    (case k3 => k_is)
    (case a4 => k_is)
    (case l4 => k_is)
    (case c4 => k_is)
    (case k4 => k_is)
    (case a5 => k_is)
    (case l5 => k_is)
    (case c5 => k_is)
    (case k5 => k_is)
    (case a6 => k_is)
    (case l6 => k_is)
    (case c6 => k_is)
    (case k6 => k_is)
    (case a7 => k_is)
    (case l7 => k_is)
    (case c7 => k_is)
    (case k7 => k_is)
    (case a8 => k_is)
    (case l8 => k_is)
    (case c8 => k_is)
    (case k8 => k_is)
    (case a9 => k_is)
    (case l9 => k_is)
    (case c9 => k_is)
    (case k9 => k_is)
    (case a10 => k_is)
    (case l10 => k_is)
    (case c10 => k_is)
    (case k10 => k_is)
    (case a11 => k_is)
    (case l11 => k_is)
    (case c11 => k_is)
    (case k11 => k_is)
    (case a12 => k_is)
    (case l12 => k_is)
    (case c12 => k_is)
    (case k12 => k_is)
    (case a13 => k_is)
    (case l13 => k_is)
    (case c13 => k_is)
    (case k13 => k_is)
    (case a14 => k_is)
    (case l14 => k_is)
    (case c14 => k_is)
    (case k14 => k_is)
    (case a15 => k_is)
    (case l15 => k_is)
    (case c15 => k_is)
    (case k15 => k_is)
    (case a16 => k_is)
    (case l16 => k_is)
    (case c16 => k_is)
    (case k16 => k_is)
    (case a17 => k_is)
    (case l17 => k_is)
    (case c17 => k_is)
    (case k17 => k_is)
    (case a18 => k_is)
    (case l18 => k_is)
    (case c18 => k_is)
    (case k18 => k_is)
    (case a19 => k_is)
    (case l19 => k_is)
    (case c19 => k_is)
    (case k19 => k_is)
    (case a20 => k_is)
    (case l20 => k_is)
    (case c20 => k_is)
    (case k20 => k_is)
    (case a21 => k_is)
    (case l21 => k_is)
    (case c21 => k_is)
    (case k21 => k_is)
    (case a22 => k_is)
    (case l22 => k_is)
    (case c22 => k_is)
    (case k22 => k_is)
    (case a23 => k_is)
    (case l23 => k_is)
    (case c23 => k_is)
    (case k23 => k_is)
    (case a24 => k_is)
    (case l24 => k_is)
    (case c24 => k_is)
    (case k24 => k_is)
    (case a25 => k_is)
    (case l25 => k_is)
    (case c25 => k_is)
    (case k25 => k_is)
    (case a26 => k_is)
    (case l26 => k_is)
    (case c26 => k_is)
    (case k26 => k_is)
    (case a27 => k_is)
    (case l27 => k_is)
    (case c27 => k_is)
    (case k27 => k_is)
    (case a28 => k_is)
    (case l28 => k_is)
    (case c28 => k_is)
    (case k28 => k_is)
    (case a29 => k_is)
    (case l29 => k_is)
    (case c29 => k_is)
    (case k29 => k_is)
    (case i22 => k_is)
    (case pg => k_is)
    (case hd => k_is)
    (case po => k_is)
    (case sa => k_is)
    (case mkT => k_is)
    (case kT => k_is)
    (case nf0 => k_is)
    (case nf1 => k_is)
    (case eS => k_exc)
    (case eQ => k_exc)
    (case eP => k_exc)
    (case z0 => k_is)
    (case z1 => k_is)
    (case z2 => k_is)
    (case z3 => k_is)
    (case z4 => k_is)
    (case z5 => k_is)
    (case z6 => k_is)
    (case z7 => k_is)
    (case z8 => k_is)
    (case z9 => k_is)
    (case z10 => k_is)
    (case z11 => k_is)
#print axioms PySem.Challenge.cw_bridgecrews_k06_whole_rings_and_pieces_holds
