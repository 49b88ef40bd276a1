import PyProof.Rows.All
import Wide.All
import OpenK.AllK
import Wide.FinOn
import Lean
import PyProof.EqAt
import PyProof.EqKinds
import PyProof.TupleCall
import PyProof.CompFree
import PyProof.CompMap
import PyProof.NeKinds
import PyProof.WalkInts
import PyProof.DictUpdate
import PyProof.ListRange
import PyProof.Conv_int_bool
import PyProof.Rows.SortWalk
import PyProof.Rows.SortRev
import PySem.Challenge.RW_leasehold_k11_alone
set_option Elab.async false
set_option linter.all false
set_option maxRecDepth 100000
/-! THE HAND LAYER, for ints, bools, texts, own classes, LISTS and tuples (index, slices, in, append, pop ..), calls, loops. Paste it whole ahead of your own text; what your proof does not reach may be deleted. -/
namespace L2
open PySem PySem.Spec PyProof.Rows

/-- a key: an int or a str -/
abbrev Key := Sum Int Str
def keyIs : Key → Value → Bool
  | .inl k, v => Value.isInt k v
  | .inr x, v => Value.isStrOf x v
def keyH (w : World) : Key → Int
  | .inl k => hashInt k
  | .inr x => hashStr w x
theorem keyIs_shape : ∀ {k : Key} {v : Value}, keyIs k v = true → (∃ i t, k = Sum.inl i ∧ v = Value.int i t) ∨ (∃ x t, k = Sum.inr x ∧ v = Value.str x t)
  | .inl i, v, h => by
    obtain ⟨t, e⟩ := Value.isInt_shape (k := i) (v := v) h
    exact .inl ⟨i, t, rfl, e⟩
  | .inr x, v, h => by
    obtain ⟨t, e⟩ := Value.isStrOf_shape (x := x) (v := v) h
    exact .inr ⟨x, t, rfl, e⟩
theorem keyIs_int (i : Int) (t : Tok) : keyIs (.inl i) (.int i t) = true := by simp [keyIs, Value.isInt]
theorem keyIs_str (x : Str) (t : Tok) : keyIs (.inr x) (.str x t) = true := by simp [keyIs, Value.isStrOf]
theorem key_ll (a b : Int) : decide ((Sum.inl a : Key) = Sum.inl b) = (a == b) := by
  by_cases e : a = b
  · subst e; simp
  · have h : ¬ (Sum.inl a : Key) = Sum.inl b := fun q => e (Sum.inl.inj q)
    rw [decide_eq_false h]
    exact (beq_eq_false_iff_ne.mpr e).symm
theorem key_rr (a b : Str) : decide ((Sum.inr a : Key) = Sum.inr b) = decide (a = b) := by
  by_cases e : a = b
  · subst e; simp
  · have h : ¬ (Sum.inr a : Key) = Sum.inr b := fun q => e (Sum.inr.inj q)
    rw [decide_eq_false h, decide_eq_false e]
theorem key_lr (a : Int) (b : Str) : decide ((Sum.inl a : Key) = Sum.inr b) = false := decide_eq_false (fun q => nomatch q)
theorem key_rl (a : Str) (b : Int) : decide ((Sum.inr a : Key) = Sum.inl b) = false := decide_eq_false (fun q => nomatch q)

def mixKind (prog : Program) (w : World) : PySem.KeyKind prog w Key where
  is := keyIs
  hash := keyH w
  inj := fun v a b ha hb => by
    rcases keyIs_shape ha with ⟨i, t, rfl, rfl⟩ | ⟨x, t, rfl, rfl⟩
    · rcases keyIs_shape hb with ⟨j, u, rfl, e⟩ | ⟨y, u, rfl, e⟩
      · injection e with e1 _; rw [e1]
      · exact nomatch e
    · rcases keyIs_shape hb with ⟨j, u, rfl, e⟩ | ⟨y, u, rfl, e⟩
      · exact nomatch e
      · injection e with e1 _; rw [e1]
  byValue := fun k v h => by
    rcases keyIs_shape h with ⟨i, t, rfl, rfl⟩ | ⟨x, t, rfl, rfl⟩ <;> rfl
  pyHash := fun hv h => by
    rcases keyIs_shape hv with ⟨i, t, rfl, rfl⟩ | ⟨x, t, rfl, rfl⟩
    · exact wpAny_pyHash_int h
    · exact wpAny_pyHash_str h
  eqBool := fun hu hv h => by
    rcases keyIs_shape hu with ⟨i, t, rfl, rfl⟩ | ⟨x, t, rfl, rfl⟩
    · rcases keyIs_shape hv with ⟨j, u, rfl, rfl⟩ | ⟨y, u, rfl, rfl⟩
      · rw [key_ll] at h; exact wpAny_eqBool_int h
      · rw [key_lr] at h; exact SeqAt.EqAt.int_str i t y u _ _ _ _ h
    · rcases keyIs_shape hv with ⟨j, u, rfl, rfl⟩ | ⟨y, u, rfl, rfl⟩
      · rw [key_rl] at h; exact SeqAt.EqAt.str_int x t j u _ _ _ _ h
      · rw [key_rr] at h; exact wpAny_eqBool_str h
  «strs» := fun k x t v h => by
    rcases keyIs_shape h with ⟨i, u, rfl, e⟩ | ⟨y, u, rfl, e⟩
    · exact nomatch e
    · injection e with e1 _
      subst e1
      cases v <;> rfl

theorem mixKind_int (prog : Program) (w : World) (i : Int) (t : Tok) : (mixKind prog w).is (.inl i) (.int i t) = true := keyIs_int i t
theorem mixKind_str (prog : Program) (w : World) (x : Str) (t : Tok) : (mixKind prog w).is (.inr x) (.str x t) = true := keyIs_str x t
end L2

namespace L2
open PySem PySem.Spec PyProof.Rows

/-- a value, without the heap -/
inductive V where
  | non | bl (b : Bool) | int (i : Int) | str (x : Str) | byt (b : Array UInt8) | flt (b : UInt64) | ref (a : Addr) | ty (n : String)
  deriving DecidableEq

def RelV : V → Value → Prop
  | .non, u => u = Value.none
  | .bl b, u => u = Value.bool b
  | .int i, u => ∃ t, u = Value.int i t
  | .str x, u => ∃ t, u = Value.str x t
  | .byt b, u => ∃ t, u = Value.bytes b t
  | .flt b, u => ∃ t, u = Value.float b t
  | .ref a, u => u = Value.ref a
  | .ty n, u => u = Value.type n

abbrev Vals : List V → List Value → Prop := Paired RelV
theorem Vals.length {xs : List V} {us : List Value} (r : Vals xs us) : xs.length = us.length := Paired.length r
theorem Vals.get : ∀ {xs : List V} {us : List Value} {i : Nat} {x : V}, Vals xs us → xs[i]? = some x → ∃ u, us[i]? = some u ∧ RelV x u
  | _, _, _, _, .nil, e => by simp at e
  | _, _, 0, _, .cons r _, e => by simp at e; subst e; exact ⟨_, rfl, r⟩
  | _, _, i + 1, x, .cons _ t, e => by
    obtain ⟨u, h1, h2⟩ := Vals.get (i := i) (x := x) t (by simpa using e)
    exact ⟨u, by simpa using h1, h2⟩
theorem Vals.set {x : V} {u : Value} (r : RelV x u) : ∀ {xs : List V} {us : List Value} (i : Nat), Vals xs us → Vals (xs.set i x) (us.set i u)
  | _, _, _, .nil => .nil
  | _, _, 0, .cons _ t => .cons r t
  | _, _, i + 1, .cons q t => .cons q (Vals.set r i t)
theorem Vals.append : ∀ {xs ys : List V} {us ws : List Value}, Vals xs us → Vals ys ws → Vals (xs ++ ys) (us ++ ws)
  | _, _, _, _, .nil, s => s
  | _, _, _, _, .cons r t, s => .cons r (Vals.append t s)
theorem Vals.take : ∀ {xs : List V} {us : List Value} (n : Nat), Vals xs us → Vals (xs.take n) (us.take n)
  | _, _, 0, _ => .nil
  | _, _, _ + 1, .nil => .nil
  | _, _, n + 1, .cons r t => .cons r (Vals.take n t)
theorem Vals.drop : ∀ {xs : List V} {us : List Value} (n : Nat), Vals xs us → Vals (xs.drop n) (us.drop n)
  | _, _, 0, r => r
  | _, _, _ + 1, .nil => .nil
  | _, _, n + 1, .cons _ t => Vals.drop n t
theorem Vals.none_of : ∀ {xs : List V} {us : List Value} {i : Nat}, Vals xs us → xs[i]? = none → us[i]? = none := fun {xs us i} r e => by
  have h1 := r.length
  have h2 : xs.length ≤ i := List.getElem?_eq_none_iff.mp e
  exact List.getElem?_eq_none_iff.mpr (by omega)

def RelO : Option V → Option Value → Prop
  | some v, some u => RelV v u
  | none, none => True
  | _, _ => False
def KV {κ : Type} : List (κ × V) → List (κ × Value) → Prop := Paired fun (p : κ × V) (q : κ × Value) => p.1 = q.1 ∧ RelV p.2 q.2

/-- a key of a dict (00_mix): an int or a text -/
def kV : Key → V
  | .inl i => .int i
  | .inr x => .str x

/-- what stands at a tracked address -/
inductive HO where
  /-- a list -/
  | lst (xs : List V)
  /-- a tuple (never changes) -/
  | tup (xs : List V)
  /-- a dict whose keys are ints and texts; one whose keys are tuples of ints and texts (the empty one is both) -/
  | dK (kvs : List (Key × V)) | dT (kvs : List (List Key × V))
  /-- a set of ints: its members, its size -/
  | set (S : Int → Bool) (n : Nat)
  /-- an instance of the class at C, its dict at dx, its attributes -/
  | ins (C dx : Addr) (fs : List (Str × V))
  /-- the dict of the instance at x -/
  | own (x : Addr)
  /-- the dict of an exception -/
  | xd (fs : List (Str × V))
  /-- a bound method, f of x -/
  | met (f x : Addr)
  /-- a range object lo, lo + 1, .. below hi -/
  | rng (lo hi : Int)
  /-- a thing that is known to the object (the script; a dict while a loop walks it): read, never written while it is so -/
  | frz (o : Obj) (u : HO)
  /-- a code object's table -/
  | tbl (ps : Array Value)
  /-- any other thing, by what is true of its one object (a def of one's own: SetO a S n := HO.ext fun h => ..) -/
  | ext (φ : Heap → Prop)

abbrev Hp := Addr → Option HO
def upd (H : Hp) (a : Addr) (o : HO) : Hp := fun b => if b = a then some o else H b
theorem upd_same {H : Hp} {a : Addr} {o : HO} : upd H a o a = some o := by unfold upd; rw [if_pos rfl]
theorem upd_ne {H : Hp} {a b : Addr} {o : HO} (h : b ≠ a) : upd H a o b = H b := by unfold upd; rw [if_neg h]
theorem upd_upd {H : Hp} {a : Addr} {o u : HO} : upd (upd H a o) a u = upd H a u := by
  funext b; unfold upd; split <;> rfl
/-- two objects of different content stand apart -/
theorem ne_of {H : Hp} {a b : Addr} {o u : HO} (h : H a = some o) (h' : H b = some u) (d : o ≠ u) : a ≠ b := by
  intro e; subst e; rw [h] at h'; exact d (Option.some.inj h')
theorem ne_of_none {H : Hp} {a b : Addr} {o : HO} (h : H a = some o) (h' : H b = none) : a ≠ b := by
  intro e; subst e; rw [h] at h'; cases h'

section
variable (P : Program) (w : World)
def ObjOk (H : Hp) (h : Heap) (a : Addr) : HO → Prop
  | .lst xs => xs.length ≤ sizeLine ∧ ∃ (its : List Value) (n : Nat), Vals xs its ∧ h.get? a = some { cls := .type "list", data := .seq its.toArray n }
  | .tup xs => xs.length ≤ sizeLine ∧ ∃ its : List Value, Vals xs its ∧ IsTup h a its.toArray
  | .dK kvs => kvs.length ≤ sizeLine ∧ (a == sysModules) = false ∧ ∃ vs, KV kvs vs ∧ h.DictOf (mixKind P w) a vs
  | .dT kvs => kvs.length ≤ sizeLine ∧ (a == sysModules) = false ∧ ∃ xs : List (List Key × Addr × Value),
      Paired (fun (p : List Key × V) (q : List Key × Addr × Value) => p.1 = q.1 ∧ H q.2.1 = some (.tup (p.1.map kV)) ∧ RelV p.2 q.2.2) kvs xs ∧
      ∃ o es ep, h.get? a = some o ∧ o.ExactDict ∧ o.data = .dict es ep ∧ es.toList = xs.map (entryOfKey (tupleKind (mixKind P w))) ∧ (xs.map (·.1)).Nodup
  | .set S n => h.SetOf (intKind P w) a S n
  | .ins C dx fs => H dx = some (.own a) ∧ fs.length ≤ 1000 ∧ dx ≠ a ∧ h.get? a = some (PySem.W.instObj C dx) ∧
      ∃ mA, h.Ns1 dx mA ∧ (∀ f, RelO (fs.lookup f) (mA f)) ∧ PySem.Within mA (fs.map (·.1))
  | .own _ => ∃ o, h.get? a = some o
  | .xd fs => ∃ mA, h.Ns1 a mA ∧ ∀ f, RelO (fs.lookup f) (mA f)
  | .rng lo hi => ∃ t u v, h.get? a = some { cls := .type "range", data := .fields #[.int lo t, .int hi u, .int 1 v] }
  | .frz o u => h.get? a = some o ∧ ObjOk H h a u
  | .tbl ps => h.get? a = some { cls := .none, data := .fields ps }
  | .met f x => h.get? a = some (PySem.W.methodObj (.ref f) (.ref x))
  | .ext φ => φ h ∧ (∃ o, h.get? a = some o) ∧ ∀ h1 h2 : Heap, φ h1 → (∀ o, h1.get? a = some o → h2.get? a = some o) → φ h2
/-- the abstract heap is held -/
def HOk (H : Hp) (h : Heap) : Prop := ∀ a o, H a = some o → ObjOk P w H h a o
end

section
variable {P : Program} {w : World} {H H' : Hp} {h h' : Heap} {a : Addr} {o : HO}
theorem ObjOk.lt (x : ObjOk P w H h a o) : a < h.objs.size := by
  cases o with
  | lst xs => obtain ⟨_, _, _, _, e⟩ := x; exact Heap.lt_size e
  | tup xs => obtain ⟨_, _, _, p⟩ := x; exact p.lt
  | dK kvs => obtain ⟨_, _, _, _, o, _, _, e, _⟩ := x; exact Heap.lt_size e
  | dT kvs => obtain ⟨_, _, _, _, o, _, _, e, _⟩ := x; exact Heap.lt_size e
  | set S n => obtain ⟨o, _, _, _, e, _⟩ := x; exact Heap.lt_size e
  | ins C dx fs => obtain ⟨_, _, _, e, _⟩ := x; exact Heap.lt_size e
  | own y => obtain ⟨_, e⟩ := x; exact Heap.lt_size e
  | xd fs => obtain ⟨_, ⟨_, _, _, e, _⟩, _⟩ := x; exact Heap.lt_size e
  | rng lo hi => obtain ⟨_, _, _, e⟩ := x; exact Heap.lt_size e
  | frz ob u => obtain ⟨e, _⟩ := x; exact Heap.lt_size e
  | tbl ps => exact Heap.lt_size (show h.get? a = some _ from x)
  | met f y => exact Heap.lt_size (show h.get? a = some _ from x)
  | ext φ => obtain ⟨_, ⟨_, e⟩, _⟩ := x; exact Heap.lt_size e
theorem Paired.mapP {α β : Type} {F G : α → β → Prop} : ∀ {l₁ : List α} {l₂ : List β}, Paired F l₁ l₂ → (∀ a b, F a b → G a b) → Paired G l₁ l₂
  | _, _, .nil, _ => .nil
  | _, _, .cons r t, f => .cons (f _ _ r) (Paired.mapP t f)
/-- what an object's description leans on: its own object, its own dict, the tuples -/
theorem ObjOk.stay (x : ObjOk P w H h a o) (k : ∀ b u, (b = a ∨ H b = some (.own a)) → h.get? b = some u → h'.get? b = some u)
    (ho : ∀ b, H b = some (.own a) → H' b = some (.own a)) (ht : ∀ b xs, H b = some (.tup xs) → H' b = some (.tup xs)) : ObjOk P w H' h' a o := by
  induction o with
  | lst xs => obtain ⟨z, its, n, r, e⟩ := x; exact ⟨z, its, n, r, k _ _ (.inl rfl) e⟩
  | tup xs => obtain ⟨z, its, r, ob, e, c⟩ := x; exact ⟨z, its, r, ob, k _ _ (.inl rfl) e, c⟩
  | dK kvs => obtain ⟨z, y, vs, r, ob, es, ep, e, c⟩ := x; exact ⟨z, y, vs, r, ob, es, ep, k _ _ (.inl rfl) e, c⟩
  | dT kvs =>
    obtain ⟨z, y, xs, r, ob, es, ep, e, c⟩ := x
    exact ⟨z, y, xs, Paired.mapP r fun p q z => ⟨z.1, ht _ _ z.2.1, z.2.2⟩, ob, es, ep, k _ _ (.inl rfl) e, c⟩
  | set S n => obtain ⟨ob, es, ep, t, e, c⟩ := x; exact ⟨ob, es, ep, t, k _ _ (.inl rfl) e, c⟩
  | ins C dx fs =>
    obtain ⟨d, z, ne, e, mA, ⟨od, es, ep, e2, c⟩, r⟩ := x
    exact ⟨ho _ d, z, ne, k _ _ (.inl rfl) e, mA, ⟨od, es, ep, k _ _ (.inr d) e2, c⟩, r⟩
  | own y => obtain ⟨ob, e⟩ := x; exact ⟨ob, k _ _ (.inl rfl) e⟩
  | xd fs => obtain ⟨mA, ⟨od, es, ep, e, c⟩, r⟩ := x; exact ⟨mA, ⟨od, es, ep, k _ _ (.inl rfl) e, c⟩, r⟩
  | rng lo hi => obtain ⟨t, u, v, e⟩ := x; exact ⟨t, u, v, k _ _ (.inl rfl) e⟩
  | frz ob u ih => obtain ⟨e, q⟩ := x; exact ⟨k _ _ (.inl rfl) e, ih q⟩
  | tbl ps =>
    have e : h.get? a = some { cls := .none, data := .fields ps } := x
    show h'.get? a = some { cls := .none, data := .fields ps }
    exact k a _ (.inl rfl) e
  | met f y =>
    have e : h.get? a = some (PySem.W.methodObj (.ref f) (.ref y)) := x
    show h'.get? a = some (PySem.W.methodObj (.ref f) (.ref y))
    exact k a _ (.inl rfl) e
  | ext φ => obtain ⟨p, ⟨o, e⟩, st⟩ := x; exact ⟨st _ _ p fun o q => k _ _ (.inl rfl) q, ⟨o, k _ _ (.inl rfl) e⟩, st⟩
theorem HOk.lt (x : HOk P w H h) (e : H a = some o) : a < h.objs.size := (x a o e).lt
theorem HOk.fresh (x : HOk P w H h) (e : h.objs.size ≤ a) : H a = none := by
  cases q : H a with
  | none => rfl
  | some u => exact absurd (Nat.lt_of_lt_of_le (x.lt q) e) (Nat.lt_irrefl _)
/-- every object of the heap is kept -/
theorem HOk.kept (x : HOk P w H h) (k : ∀ b u, h.get? b = some u → h'.get? b = some u) : HOk P w H h' := fun a o e =>
  (x a o e).stay (fun b u _ q => k b u q) (fun _ q => q) fun _ _ q => q
/-- a new object is laid and tracked -/
theorem HOk.laid (x : HOk P w H h) (k : ∀ b u, h.get? b = some u → h'.get? b = some u) (hp : h.objs.size ≤ a) (new : ObjOk P w (upd H a o) h' a o) : HOk P w (upd H a o) h' := fun b u e => by
  have hn := x.fresh hp
  by_cases hb : b = a
  · subst hb; rw [upd_same] at e; cases e; exact new
  · rw [upd_ne hb] at e
    exact (x b u e).stay (fun c v _ q => k c v q) (fun c q => by rw [upd_ne (ne_of_none q hn)]; exact q) fun c xs q => by rw [upd_ne (ne_of_none q hn)]; exact q
end

/-- what may be read as u: it is u, or a known u -/
def Rd (H : Hp) (a : Addr) (u : HO) : Prop := H a = some u ∨ ∃ o, H a = some (.frz o u)
theorem Rd.of {H : Hp} {a : Addr} {u : HO} (h : H a = some u) : Rd H a u := .inl h
theorem Rd.ok {P : Program} {w : World} {H : Hp} {h : Heap} {a : Addr} {u : HO} (r : Rd H a u) (x : HOk P w H h) : ObjOk P w H h a u := by
  rcases r with r | ⟨o, r⟩
  · exact x a u r
  · obtain ⟨_, q⟩ := x a _ r
    exact q
/-- what may be written -/
def Mut : Option HO → Prop
  | some (.lst _) => True
  | some (.dK _) => True
  | some (.dT _) => True
  | some (.set _ _) => True
  | some (.ins _ _ _) => True
  | some (.ext _) => True
  | _ => False
section
variable {P : Program} {w : World} {H : Hp} {h h' : Heap} {x e : Addr} {o' : HO}
/-- the object at e is changed: x itself, or the dict of the instance x -/
theorem HOk.write (ok : HOk P w H h) (mu : Mut (H x)) (he : e = x ∨ H e = some (.own x)) (k : ∀ b u, b ≠ e → h.get? b = some u → h'.get? b = some u) (heo : ∃ u, h'.get? e = some u)
    (new : ObjOk P w (upd H x o') h' x o') : HOk P w (upd H x o') h' := fun b u q => by
  have nown : ∀ c y, H c = some (.own y) → c ≠ x := fun c y r z => by subst z; rw [r] at mu; exact mu
  have ntup : ∀ c xs, H c = some (.tup xs) → c ≠ x := fun c xs r z => by subst z; rw [r] at mu; exact mu
  by_cases hb : b = x
  · subst hb; rw [upd_same] at q; cases q; exact new
  · rw [upd_ne hb] at q
    by_cases hbe : b = e
    · have q' : H b = some (.own x) := by
        rcases he with z | z
        · exact absurd (hbe.trans z) hb
        · rw [hbe]; exact z
      rw [q] at q'; cases q'
      obtain ⟨v, hv⟩ := heo
      exact ⟨v, by rw [hbe]; exact hv⟩
    · refine (ok b u q).stay (fun c v hc r => k c v ?_ r) (fun c r => by rw [upd_ne (nown c b r)]; exact r) fun c xs r => by rw [upd_ne (ntup c xs r)]; exact r
      rcases hc with rfl | hc
      · exact hbe
      · rintro rfl
        rcases he with z | z
        · exact nown c b hc z
        · rw [hc] at z; cases z; exact hb rfl
end

/-! ### kept unless tracked; of the frames at fs (the callers') the slots may change (an exception that passes writes there); of the records at ex (iterators) nothing is said -/
structure Un (fs ex : List Addr) (H H' : Hp) (h h' : Heap) : Prop where
  keep : ∀ b o, h.get? b = some o → H b = none → b ∉ fs → b ∉ ex → h'.get? b = some o
  slot : ∀ b o, h.get? b = some o → H b = none → b ∈ fs → b ∉ ex → ∃ sl, h'.get? b = some { o with slots := sl }
  free : ∀ b o, h.get? b = some o → H b = none → b ∉ ex → H' b = none
  there : ∀ b o, h.get? b = some o → b ∉ ex → ∃ o', h'.get? b = some o'
  tups : ∀ b xs, H b = some (.tup xs) → H' b = some (.tup xs)
  frzs : ∀ b o u, H b = some (.frz o u) → H' b = some (.frz o u)
  tbls : ∀ b ps, H b = some (.tbl ps) → ∃ more, H' b = some (.tbl (ps ++ more))
section
variable {fs fs' ex ex' : List Addr} {H H1 H2 : Hp} {h h1 h2 h' : Heap} {a x e : Addr} {o : HO}
theorem Un.any (u : Un fs ex H H1 h h1) {b : Addr} {ob : Obj} (q : h.get? b = some ob) (n : H b = none) (hx : b ∉ ex) : ∃ sl, h1.get? b = some { ob with slots := sl } := by
  by_cases hb : b ∈ fs
  · exact u.slot b ob q n hb hx
  · exact ⟨ob.slots, u.keep b ob q n hb hx⟩
theorem Un.trans (a : Un fs ex H H1 h h1) (b : Un fs ex H1 H2 h1 h2) : Un fs ex H H2 h h2 where
  keep := fun c ob q n hc hx => b.keep c ob (a.keep c ob q n hc hx) (a.free c ob q n hx) hc hx
  slot := fun c ob q n hc hx => by
    obtain ⟨sl, e1⟩ := a.slot c ob q n hc hx
    obtain ⟨sl', e2⟩ := b.slot c _ e1 (a.free c ob q n hx) hc hx
    exact ⟨sl', e2⟩
  free := fun c ob q n hx => by
    obtain ⟨o', e1⟩ := a.there c ob q hx
    exact b.free c o' e1 (a.free c ob q n hx) hx
  there := fun c ob q hx => by
    obtain ⟨o', e1⟩ := a.there c ob q hx
    exact b.there c o' e1 hx
  tups := fun c xs q => b.tups c xs (a.tups c xs q)
  frzs := fun c ob xs q => b.frzs c ob xs (a.frzs c ob xs q)
  tbls := fun c ps q => by
    obtain ⟨m1, e1⟩ := a.tbls c ps q
    obtain ⟨m2, e2⟩ := b.tbls c _ e1
    exact ⟨m1 ++ m2, by rw [e2, Array.append_assoc]⟩
theorem Un.kept (k : ∀ b u, h.get? b = some u → h'.get? b = some u) : Un fs ex H H h h' :=
  ⟨fun b ob q _ _ _ => k b ob q, fun b ob q _ _ _ => ⟨ob.slots, k b ob q⟩, fun _ _ _ n _ => n, fun b ob q _ => ⟨ob, k b ob q⟩, fun _ _ q => q, fun _ _ _ q => q, fun _ ps q => ⟨#[], by rw [q]; simp⟩⟩
theorem Un.refl : Un fs ex H H h h := Un.kept fun _ _ q => q
theorem Un.laid (k : ∀ b u, h.get? b = some u → h'.get? b = some u) (hp : h.objs.size ≤ a) (hn : H a = none) : Un fs ex H (upd H a o) h h' where
  keep := fun b u q _ _ _ => k b u q
  slot := fun b u q _ _ _ => ⟨u.slots, k b u q⟩
  free := fun b u q n _ => by rw [upd_ne (Nat.ne_of_lt (Nat.lt_of_lt_of_le (Heap.lt_size q) hp))]; exact n
  there := fun b u q _ => ⟨u, k b u q⟩
  tups := fun b xs q => by rw [upd_ne (ne_of_none q hn)]; exact q
  frzs := fun b u xs q => by rw [upd_ne (ne_of_none q hn)]; exact q
  tbls := fun b ps q => ⟨#[], by rw [upd_ne (ne_of_none q hn), q]; simp⟩
theorem Un.write (mu : Mut (H x)) (he : e = x ∨ H e = some (.own x)) (k : ∀ b u, b ≠ e → h.get? b = some u → h'.get? b = some u) (heo : ∃ u, h'.get? e = some u) : Un fs ex H (upd H x o) h h' := by
  have hx : ∀ b, H b = none → b ≠ x := fun b n z => by subst z; rw [n] at mu; exact mu
  have hb : ∀ b, H b = none → b ≠ e := fun b n z => by
    subst z
    rcases he with r | r
    · exact hx b n r
    · rw [n] at r; cases r
  have hm : ∀ b u, H b = some u → ¬ Mut (some u) → b ≠ x := fun b u q nm z => by subst z; rw [q] at mu; exact nm mu
  refine ⟨fun b u q n _ _ => k b u (hb b n) q, fun b u q n _ _ => ⟨u.slots, k b u (hb b n) q⟩, fun b u q n _ => by rw [upd_ne (hx b n)]; exact n, fun b u q _ => ?_,
    fun b xs q => by rw [upd_ne (hm b _ q fun z => z)]; exact q, fun b u xs q => by rw [upd_ne (hm b _ q fun z => z)]; exact q, fun b ps q => ⟨#[], by rw [upd_ne (hm b _ q fun z => z), q]; simp⟩⟩
  by_cases hbe : b = e
  · subst hbe; exact heo
  · exact ⟨u, k b u hbe q⟩
theorem Un.mono (u : Un fs ex H H1 h h1) (hs : ∀ b ∈ fs, b ∈ fs') (hx : ∀ b ∈ ex, b ∈ ex') : Un fs' ex' H H1 h h1 :=
  ⟨fun b ob q n hb he => u.keep b ob q n (fun z => hb (hs b z)) fun z => he (hx b z), fun _ _ q n _ he => u.any q n fun z => he (hx _ z), fun b ob q n he => u.free b ob q n fun z => he (hx b z), fun b ob q he => u.there b ob q fun z => he (hx b z), u.tups, u.frzs, u.tbls⟩
end

/-! ### the heap without what is tracked -/
def trk (h : Heap) (H : Hp) : List Addr := (List.range h.objs.size).filter fun a => (H a).isSome
def hidT (h : Heap) (H : Hp) : Heap := PySem.W.hideAll h (trk h H)
theorem hidT_size (h : Heap) (H : Hp) : (hidT h H).objs.size = h.objs.size := PySem.W.hideAll_size _ _
theorem hidT_get {h : Heap} {H : Hp} {b : Addr} {o : Obj} (e : h.get? b = some o) (n : H b = none) : (hidT h H).get? b = some o :=
  PySem.W.hideAll_get _ e fun hm => by
    have q : (H b).isSome = true := (List.mem_filter.mp hm).2
    rw [n] at q; simp at q
theorem of_hidT {h : Heap} {H : Hp} {b : Addr} {o : Obj} (e : (hidT h H).get? b = some o) : h.get? b = some o ∧ H b = none := by
  have e' : h.get? b = some o := PySem.W.of_hideAll (trk h H) e
  refine ⟨e', ?_⟩
  cases q : H b with
  | none => rfl
  | some x =>
    have hm : b ∈ trk h H := List.mem_filter.mpr ⟨List.mem_range.mpr (Heap.lt_size e'), by simp [q]⟩
    have z : (hidT h H).get? b = none := PySem.W.hideAll_none (trk h H) hm
    rw [z] at e; cases e

/-! ### OpenK's ledger, filled with every new object but one -/
def allNews (g h : Heap) (L : Addr) : List (Addr × Obj) := (List.range h.objs.size).filterMap fun a => if a = L ∨ (g.get? a).isSome = true then none else (h.get? a).map fun o => (a, o)
def rest (g h : Heap) (L d : Addr) : List (Addr × Obj) := (allNews g h L).filter fun p => decide (p.1 ≠ d)
end L2

namespace L2
open PySem PySem.Spec PyProof.Rows

/-- the module's facts, over the base: the heap at the law's entry without what is tracked there -/
structure Mod (K : PySem.W.Frag) (mg : Str → Option Value) (base : Heap) : Prop where
  kin : K.In base
  glob : base.Ns mainGlobals mg
  blt : ∃ mb, base.Ns builtinsNs mb ∧ ∀ x : Str, x ≠ "__name__" → mb x = bootBuiltins x
  nolimit : base.NoLimit

/-- the context: a def's body (or a comprehension's block) running. base: fixed through the whole law; s₀, H₀: the entry; outer: the frames whose slots others may change (a def's callers); stack: all frames that run;
   ex: iterators that were made ahead of the entry and are walked here (a comprehension's); fn: the names whose cells were made at the entry (a def: all; a comprehension's block: its own); calm: not within an except suite; pn: pins that every state bears; xe: what is wanted of an exception that leaves the code -/
structure Cx where
  prog : Program
  w : World
  K : PySem.W.Frag
  mg : Str → Option Value
  base : Heap
  A : Around
  N : List Str
  s₀ : Shared
  H₀ : Hp
  env : Env
  outer : List Env
  stack : List Env
  ex : List Addr
  fn : Str → Bool
  calm : Bool
  pn : List (Addr × Obj)
  xe : Value → Shared → Prop
/-- the callers' frames -/
def frs (l : List Env) : List Addr := l.filterMap (·.frame)
abbrev Cx.fs (X : Cx) : List Addr := frs X.outer

def Vis (sc : Scope) (x : Str) : Prop := sc.names.lookup x = some .local ∨ sc.names.lookup x = some .cell ∨ sc.names.lookup x = some .free
def Loc (sc : Scope) (x : Str) : Prop := sc.names.lookup x = some .local ∨ sc.names.lookup x = some .cell
def Look (env : Env) (h : Heap) (m : Str → Option Value) (x : Str) (u : Value) : Prop :=
  (env.kindOf x = some .local ∧ m x = some u) ∨ ((env.kindOf x = some .cell ∨ env.kindOf x = some .free) ∧ ∃ c, env.cells.lookup x = some c ∧ h.IsCell c (some u))

structure Cx.Ok (X : Cx) : Prop where
  mod : Mod X.K X.mg X.base
  kind : X.env.scope.kind = .function
  glob : X.env.globals = mainGlobals
  blt : X.env.builtins = builtinsNs
  above : X.s₀.heap.objs.size ≤ X.env.locals
  inj : ∀ x y c, X.env.cells.lookup x = some c → X.env.cells.lookup y = some c → x = y
  has : ∀ x, (X.env.kindOf x = some .cell ∨ X.env.kindOf x = some .free) → ∃ c, X.env.cells.lookup x = some c
  cab : ∀ x c, X.fn x = true → X.env.cells.lookup x = some c → X.s₀.heap.objs.size ≤ c
  hd : X.calm = true → X.A.handled = none
  frames : X.A.frames = some X.stack
  stk : X.stack = X.outer ∨ (X.stack = X.env :: X.outer ∧ X.env.frame = some X.env.locals)
  exf : ∀ b ∈ X.ex, b ≠ X.env.locals ∧ ∀ x c, X.env.cells.lookup x = some c → c ≠ b
  bs : ∀ b o, X.base.get? b = some o → X.s₀.heap.get? b = some o ∧ X.H₀ b = none
  bsz : X.base.objs.size ≤ X.s₀.heap.objs.size
  noex : ∀ b o, X.base.get? b = some o → b ∉ X.ex
  exfs : ∀ b ∈ X.ex, b ∉ X.fs
  funs : X.s₀.heap.FunFrames X.base X.outer
  frf : ∀ b ∈ X.fs, X.H₀ b = none

structure Inv (X : Cx) (pins : List (Addr × Obj)) (σ : List (Option V)) (H : Hp) (s : Shared) : Prop where
  ok : X.Ok
  os : s.os = X.s₀.os
  bare : AllBare s.gens
  base : Un X.fs X.ex X.H₀ H X.s₀.heap s.heap
  loc : ∃ m, s.heap.Ns X.env.locals m ∧ ∀ (i : Nat) (x : Str) (v : V), X.N[i]? = some x → σ[i]? = some (some v) → Vis X.env.scope x → ∃ u, RelV v u ∧ Look X.env s.heap m x u
  cell : ∀ x c, X.env.cells.lookup x = some c → ∃ v, s.heap.IsCell c v
  free : H X.env.locals = none
  freeC : ∀ x c, X.env.cells.lookup x = some c → H c = none
  pin : ∀ p ∈ X.pn ++ pins, s.heap.get? p.1 = some p.2 ∧ H p.1 = none ∧ p.1 ≠ X.env.locals ∧ p.1 ∉ X.fs ∧ ∀ v, p.2.data ≠ .cell v
  hok : HOk X.prog X.w H s.heap
  len : σ.length = X.N.length

section
variable {X : Cx} {pins : List (Addr × Obj)} {σ : List (Option V)} {H H' : Hp} {s : Shared} {h' : Heap}

theorem Cx.Ok.nofr (ok : X.Ok) {b : Addr} {o : Obj} (e : X.base.get? b = some o) : b ∉ X.fs := fun hb => by
  have := (ok.funs.mem hb).1
  rw [e] at this; cases this
theorem Inv.bs (I : Inv X pins σ H s) : ∀ b o, X.base.get? b = some o → s.heap.get? b = some o ∧ H b = none := fun b o e =>
  ⟨I.base.keep b o (I.ok.bs b o e).1 (I.ok.bs b o e).2 (I.ok.nofr e) (I.ok.noex b o e), I.base.free b o (I.ok.bs b o e).1 (I.ok.bs b o e).2 (I.ok.noex b o e)⟩
theorem Inv.bk (I : Inv X pins σ H s) : ∀ b o, X.base.get? b = some o → s.heap.get? b = some o := fun b o e => (I.bs b o e).1
theorem Inv.mod (I : Inv X pins σ H s) : Mod X.K X.mg X.base := I.ok.mod
theorem Inv.kIn (I : Inv X pins σ H s) : X.K.In s.heap := I.ok.mod.kin.keeps I.bk
theorem Inv.nolimit (I : Inv X pins σ H s) : s.heap.NoLimit := I.ok.mod.nolimit.keeps I.bk
/-- the frame over the base: for OpenK's rules (K.In X.base is I.mod.kin) -/
theorem Inv.fr (I : Inv X pins σ H s) : ∃ m, Fr X.base X.env.locals s.heap m :=
  let ⟨m, hn, _⟩ := I.loc
  ⟨m, hn, I.bk, Nat.le_trans I.ok.bsz I.ok.above⟩
theorem Inv.lt (I : Inv X pins σ H s) : X.env.locals < s.heap.objs.size := let ⟨_, hn, _⟩ := I.loc; hn.lt
theorem Inv.sz (I : Inv X pins σ H s) : X.s₀.heap.objs.size ≤ s.heap.objs.size := Nat.le_trans I.ok.above (Nat.le_of_lt I.lt)
theorem Inv.nofs (I : Inv X pins σ H s) {a : Addr} (h : s.heap.objs.size ≤ a) : a ∉ X.fs := fun hb => by
  obtain ⟨_, o, ho, _⟩ := I.ok.funs.mem hb
  exact absurd (Nat.lt_of_lt_of_le (Heap.lt_size ho) (Nat.le_trans I.sz h)) (Nat.lt_irrefl _)
theorem Inv.cne (I : Inv X pins σ H s) : ∀ x c, X.env.cells.lookup x = some c → c ≠ X.env.locals := fun x c e z => by
  obtain ⟨v, o, ho, hd⟩ := I.cell x c e
  obtain ⟨m, ⟨o', es, ep, ho', hd', _⟩, _⟩ := I.loc
  rw [z, ho'] at ho; cases ho; rw [hd'] at hd; cases hd
theorem Inv.funs (I : Inv X pins σ H s) : s.heap.FunFrames X.base X.outer := by
  have all : ∀ (l : List Env), (∀ b ∈ frs l, b ∈ X.fs) → X.s₀.heap.FunFrames X.base l → s.heap.FunFrames X.base l := by
    intro l
    induction l with
    | nil => intro _ _; trivial
    | cons env r ih =>
      intro hs hl
      obtain ⟨hk, ⟨L, o, hf, hn, ho, hd⟩, hr⟩ := hl
      have hL : L ∈ X.fs := hs L (by unfold frs; rw [List.filterMap_cons, hf]; exact List.mem_cons_self)
      obtain ⟨sl, e⟩ := I.base.slot L o ho (I.ok.frf L hL) hL fun z => I.ok.exfs L z hL
      exact ⟨hk, ⟨L, _, hf, hn, e, hd⟩, ih (fun b hb => hs b (by unfold frs; rw [List.filterMap_cons, hf]; exact List.mem_cons_of_mem _ hb)) hr⟩
  exact all X.outer (fun _ hb => hb) I.ok.funs

/-- the frames that run, for a call -/
theorem Inv.stack (I : Inv X pins σ H s) : s.heap.FunFrames X.base X.stack := by
  rcases I.ok.stk with e | ⟨e, hf⟩
  · rw [e]; exact I.funs
  · rw [e]
    obtain ⟨m, hn, _⟩ := I.loc
    refine .cons (by rw [I.ok.kind]; decide) hf hn ?_ I.funs
    exact Heap.get?_none_of_le (Nat.le_trans I.ok.bsz I.ok.above)
theorem Inv.stkSub (I : Inv X pins σ H s) : ∀ b ∈ frs X.stack, b ∈ X.env.locals :: X.fs := fun b hb => by
  rcases I.ok.stk with e | ⟨e, hf⟩
  · rw [e] at hb; exact List.mem_cons_of_mem _ hb
  · rw [e] at hb
    unfold frs at hb
    rw [List.filterMap_cons, hf] at hb
    exact hb
theorem Inv.stkFree (I : Inv X pins σ H s) : ∀ b ∈ frs X.stack, H b = none := fun b hb => by
  rcases List.mem_cons.mp (I.stkSub b hb) with e | hb
  · rw [e]; exact I.free
  · obtain ⟨_, o, ho, _⟩ := I.ok.funs.mem hb
    exact I.base.free b o ho (I.ok.frf b hb) fun z => I.ok.exfs b z hb

/-- THE STEP: the untracked objects but the frame and the records at ch are kept (the callers' frames up to slots), the frame's map is kept, the new abstract heap is held -/
theorem Inv.step {g' : Array GenState} {t' : Nat} {d' : Drawn} {ch : List Addr} (I : Inv X pins σ H s)
    (hch : ∀ b ∈ ch, (b ∈ X.ex ∨ X.s₀.heap.objs.size ≤ b) ∧ b ≠ X.env.locals ∧ (∀ x c, X.env.cells.lookup x = some c → c ≠ b) ∧ ∀ p ∈ X.pn ++ pins, p.1 ≠ b)
    (keep : ∀ b o, b ≠ X.env.locals → b ∉ X.fs → b ∉ ch → s.heap.get? b = some o → H b = none → h'.get? b = some o)
    (slot : ∀ b o, b ≠ X.env.locals → b ∈ X.fs → b ∉ ch → s.heap.get? b = some o → H b = none → ∃ sl, h'.get? b = some { o with slots := sl }) (free : ∀ b o, b ∉ ch → s.heap.get? b = some o → H b = none → H' b = none)
    (there : ∀ b o, b ∉ ch → s.heap.get? b = some o → ∃ o', h'.get? b = some o')
    (tups : ∀ b xs, H b = some (.tup xs) → H' b = some (.tup xs)) (frzs : ∀ b o u, H b = some (.frz o u) → H' b = some (.frz o u)) (tbls : ∀ b ps, H b = some (.tbl ps) → ∃ more, H' b = some (.tbl (ps ++ more)))
    (ns : ∀ m, s.heap.Ns X.env.locals m → h'.Ns X.env.locals m) (hok : HOk X.prog X.w H' h') (hg : AllBare g') :
    Inv X pins σ H' { s with heap := h', gens := g', drawn := d', toks := t' } := by
  have neL : ∀ b o, X.s₀.heap.get? b = some o → b ≠ X.env.locals := fun b o e => Nat.ne_of_lt (Nat.lt_of_lt_of_le (Heap.lt_size e) I.ok.above)
  have neC : ∀ b o, X.s₀.heap.get? b = some o → b ∉ X.ex → b ∉ ch := fun b o e hx hb => by
    rcases (hch b hb).1 with z | z
    · exact hx z
    · exact absurd (Nat.lt_of_lt_of_le (Heap.lt_size e) z) (Nat.lt_irrefl _)
  have cellK : ∀ x c, X.env.cells.lookup x = some c → ∀ v, s.heap.IsCell c v → h'.IsCell c v := fun x c e v ⟨o, ho, hd⟩ => by
    have nch : c ∉ ch := fun z => (hch c z).2.2.1 x c e rfl
    by_cases hc : c ∈ X.fs
    · obtain ⟨sl, q⟩ := slot c o (I.cne x c e) hc nch ho (I.freeC x c e)
      exact ⟨_, q, hd⟩
    · exact ⟨o, keep c o (I.cne x c e) hc nch ho (I.freeC x c e), hd⟩
  refine ⟨I.ok, I.os, hg, ⟨fun b o e n hb hx => ?_, fun b o e n hb hx => ?_, fun b o e n hx => ?_, fun b o e hx => ?_, fun b xs e => tups b xs (I.base.tups b xs e), fun b o xs e => frzs b o xs (I.base.frzs b o xs e), fun b ps e => ?_⟩, ?_, fun x c e => ?_, ?_, fun x c e => ?_, fun p hp => ?_, hok, I.len⟩
  · exact keep b o (neL b o e) hb (neC b o e hx) (I.base.keep b o e n hb hx) (I.base.free b o e n hx)
  · obtain ⟨sl, e1⟩ := I.base.slot b o e n hb hx
    obtain ⟨sl', e2⟩ := slot b _ (neL b o e) hb (neC b o e hx) e1 (I.base.free b o e n hx)
    exact ⟨sl', e2⟩
  · obtain ⟨o', e1⟩ := I.base.there b o e hx
    exact free b o' (neC b o e hx) e1 (I.base.free b o e n hx)
  · obtain ⟨o', e1⟩ := I.base.there b o e hx
    exact there b o' (neC b o e hx) e1
  · obtain ⟨m1, e1⟩ := I.base.tbls b ps e
    obtain ⟨m2, e2⟩ := tbls b _ e1
    exact ⟨m1 ++ m2, by rw [e2, Array.append_assoc]⟩
  · obtain ⟨m, hn, hl⟩ := I.loc
    refine ⟨m, ns m hn, fun i x v e1 e2 e3 => ?_⟩
    obtain ⟨u, r, l⟩ := hl i x v e1 e2 e3
    refine ⟨u, r, ?_⟩
    rcases l with l | ⟨k, c, e, z⟩
    · exact .inl l
    · exact .inr ⟨k, c, e, cellK x c e _ z⟩
  · obtain ⟨v, z⟩ := I.cell x c e
    exact ⟨v, cellK x c e v z⟩
  · obtain ⟨m, ⟨o, _, _, ho, _⟩, _⟩ := I.loc
    exact free _ o (fun z => (hch _ z).2.1 rfl) ho I.free
  · obtain ⟨v, o, ho, hd⟩ := I.cell x c e
    exact free c o (fun z => (hch c z).2.2.1 x c e rfl) ho (I.freeC x c e)
  · obtain ⟨e, n, ne, nf, d⟩ := I.pin p hp
    have nch : p.1 ∉ ch := fun z => (hch p.1 z).2.2.2 p hp rfl
    exact ⟨keep p.1 p.2 ne nf nch e n, free p.1 p.2 nch e n, ne, nf, d⟩
/-- .. where the frame's own object is kept too -/
theorem Inv.un {t' : Nat} (I : Inv X pins σ H s) (u : Un X.fs [] H H' s.heap h') (hok : HOk X.prog X.w H' h') : Inv X pins σ H' { s with heap := h', toks := t' } := by
  obtain ⟨m, ⟨o, es, ep, ho, r⟩, _⟩ := id I.loc
  obtain ⟨sl, hL⟩ := u.any ho I.free (by simp)
  exact I.step (g' := s.gens) (d' := s.drawn) (ch := []) (fun _ z => nomatch z) (fun b o _ hb _ e n => u.keep b o e n hb (by simp)) (fun b o _ hb _ e n => u.slot b o e n hb (by simp)) (fun b o _ e n => u.free b o e n (by simp)) (fun b o _ e => u.there b o e (by simp)) u.tups u.frzs u.tbls (fun m' hm => by
    obtain ⟨o', es', ep', ho', r'⟩ := hm
    rw [ho] at ho'; cases ho'
    exact ⟨_, es', ep', hL, r'⟩) hok I.bare
/-- behind a call (or a comprehension's block): the slots of this frame may have changed too, the records at ch may have turned -/
theorem Inv.call {g' : Array GenState} {t' : Nat} {d' : Drawn} {ch : List Addr} (I : Inv X pins σ H s) (u : Un (frs X.stack) ch H H' s.heap h') (hok : HOk X.prog X.w H' h') (hg : AllBare g')
    (hch : ∀ b ∈ ch, (b ∈ X.ex ∨ X.s₀.heap.objs.size ≤ b) ∧ b ≠ X.env.locals ∧ (∀ x c, X.env.cells.lookup x = some c → c ≠ b) ∧ ∀ p ∈ X.pn ++ pins, p.1 ≠ b) :
    Inv X pins σ H' { s with heap := h', gens := g', drawn := d', toks := t' } := by
  obtain ⟨m, ⟨o, es, ep, ho, r⟩, _⟩ := id I.loc
  obtain ⟨sl, hL⟩ := u.any ho I.free fun z => (hch _ z).2.1 rfl
  exact I.step (ch := ch) hch (fun b o hL hb hc e n => u.keep b o e n (fun z => (List.mem_cons.mp (I.stkSub b z)).elim hL hb) hc) (fun b o _ _ hc e n => u.any e n hc) (fun b o hc e n => u.free b o e n hc) (fun b o hc e => u.there b o e hc) u.tups u.frzs u.tbls (fun m' hm => by
    obtain ⟨o', es', ep', ho', r'⟩ := hm
    rw [ho] at ho'; cases ho'
    exact ⟨_, es', ep', hL, r'⟩) hok hg
/-- an untracked record of ours (an iterator) has turned -/
theorem Inv.turned {t' : Nat} {it : Addr} (I : Inv X pins σ H s) (k : ∀ b o, b ≠ it → s.heap.get? b = some o → h'.get? b = some o) (hn : H it = none) (hL : it ≠ X.env.locals)
    (h1 : it ∈ X.ex ∨ X.s₀.heap.objs.size ≤ it) (h2 : ∀ x c, X.env.cells.lookup x = some c → c ≠ it) (h3 : ∀ p ∈ X.pn ++ pins, p.1 ≠ it) : Inv X pins σ H { s with heap := h', toks := t' } := by
  have nit : ∀ b u, H b = some u → b ≠ it := fun b u e z => by rw [z, hn] at e; cases e
  refine I.step (g' := s.gens) (d' := s.drawn) (ch := [it]) (fun b hb => ?_) (fun b o _ _ hc e _ => k b o (fun z => hc (by simp [z])) e) (fun b o _ _ hc e _ => ⟨o.slots, k b o (fun z => hc (by simp [z])) e⟩) (fun _ _ _ _ n => n)
    (fun b o hc e => ⟨o, k b o (fun z => hc (by simp [z])) e⟩) (fun _ _ e => e) (fun _ _ _ e => e) (fun b ps e => ⟨#[], by rw [e]; simp⟩) (fun m hm => ?_) (fun b u e => ?_) I.bare
  · have e : b = it := by simpa using hb
    subst e
    exact ⟨h1, hL, h2, h3⟩
  · obtain ⟨o, es, ep, ho, r⟩ := hm
    exact ⟨o, es, ep, k _ o (Ne.symm hL) ho, r⟩
  · refine (I.hok b u e).stay (fun c v hc q => k c v ?_ q) (fun _ q => q) fun _ _ q => q
    rcases hc with z | z
    · rw [z]; exact nit b u e
    · exact nit c _ z
theorem Inv.tok (I : Inv X pins σ H s) (t : Nat) : Inv X pins σ H { s with toks := t } := I.un (h' := s.heap) (t' := t) Un.refl I.hok
/-- all objects kept -/
theorem Inv.kept {t' : Nat} (I : Inv X pins σ H s) (k : ∀ b u, s.heap.get? b = some u → h'.get? b = some u) : Inv X pins σ H { s with heap := h', toks := t' } := I.un (Un.kept k) (I.hok.kept k)
/-- a new object laid and tracked -/
theorem Inv.laid {a : Addr} {o : HO} {t' : Nat} (I : Inv X pins σ H s) (k : ∀ b u, s.heap.get? b = some u → h'.get? b = some u) (hp : s.heap.objs.size ≤ a) (new : ObjOk X.prog X.w (upd H a o) h' a o) :
    Inv X pins σ (upd H a o) { s with heap := h', toks := t' } := I.un (Un.laid k hp (I.hok.fresh hp)) (I.hok.laid k hp new)
/-- an object written -/
theorem Inv.write {x e : Addr} {o : HO} {t' : Nat} (I : Inv X pins σ H s) (mu : Mut (H x)) (he : e = x ∨ H e = some (.own x)) (k : ∀ b u, b ≠ e → s.heap.get? b = some u → h'.get? b = some u) (heo : ∃ u, h'.get? e = some u)
    (new : ObjOk X.prog X.w (upd H x o) h' x o) : Inv X pins σ (upd H x o) { s with heap := h', toks := t' } := I.un (Un.write mu he k heo) (I.hok.write mu he k heo new)
/-- forgetting slots, pins -/
theorem Inv.weak {σ' : List (Option V)} (I : Inv X pins σ H s) (hl : σ'.length = σ.length) (w : ∀ (i : Nat) v, σ'[i]? = some (some v) → σ[i]? = some (some v)) : Inv X pins σ' H s :=
  ⟨I.ok, I.os, I.bare, I.base, let ⟨m, hn, hl'⟩ := I.loc; ⟨m, hn, fun i x v e1 e2 e3 => hl' i x v e1 (w i v e2) e3⟩, I.cell, I.free, I.freeC, I.pin, I.hok, hl.trans I.len⟩
theorem Inv.pins_of {pins' : List (Addr × Obj)} (I : Inv X pins σ H s) (h : ∀ p ∈ pins', s.heap.get? p.1 = some p.2 ∧ H p.1 = none ∧ p.1 ≠ X.env.locals ∧ p.1 ∉ X.fs ∧ ∀ v, p.2.data ≠ .cell v) : Inv X pins' σ H s :=
  ⟨I.ok, I.os, I.bare, I.base, I.loc, I.cell, I.free, I.freeC, fun p hp => (List.mem_append.mp hp).elim (fun z => I.pin p (List.mem_append_left _ z)) (h p), I.hok, I.len⟩

theorem nodup_ix {N : List Str} (hN : N.Nodup) {i j : Nat} {x : Str} (a : N[i]? = some x) (b : N[j]? = some x) : i = j := by
  obtain ⟨h1, e1⟩ := List.getElem?_eq_some_iff.mp a
  obtain ⟨h2, e2⟩ := List.getElem?_eq_some_iff.mp b
  exact (List.getElem_inj hN).mp (e1.trans e2.symm)

/-- a name is stored; what changed -/
theorem store_ok2 {M : Model} {A : Around} {E : Value → Shared → Prop} {i : Nat} {x : Str} {v : V} {u : Value} {Q : Unit → Shared → Prop} (I : Inv X pins σ H s) (hN : X.N.Nodup) (hi : X.N[i]? = some x) (hx : Loc X.env.scope x) (r : RelV v u)
    (h : ∀ s', Inv X pins (σ.set i (some v)) H s' → (∃ a, Heap.SameBut a s.heap s'.heap ∧ (a = X.env.locals ∨ X.env.cells.lookup x = some a)) → Q () s') (hf : X.fn x = true ∨ X.env.scope.names.lookup x = some .local := by first | exact .inl rfl | exact .inr rfl | assumption) : wpAny M A (storeName X.env x u) Q E s := by
  obtain ⟨m, hn, hl⟩ := id I.loc
  have hcls : (X.env.scope.kind == .class || (X.env.scope.kind == .module && X.env.locals != X.env.globals)) = false := by rw [I.ok.kind]; rfl
  have hiσ : i < σ.length := by rw [I.len]; exact (List.getElem?_eq_some_iff.mp hi).1
  have cne := I.cne
  have tracked : ∀ {a : Addr} {h' : Heap}, (∃ o, s.heap.get? a = some o ∧ H a = none) → Heap.SameBut a s.heap h' → HOk X.prog X.w H h' := fun {a h'} ha hs b ob e => by
    obtain ⟨_, _, hfree⟩ := ha
    refine (I.hok b ob e).stay (fun c w' hc q => (hs.2 c ?_).trans q) (fun _ q => q) fun _ _ q => q
    rintro rfl
    rcases hc with rfl | hc
    · rw [hfree] at e; cases e
    · rw [hfree] at hc; cases hc
  rcases hx with hk | hk
  · refine wpAny_storeName_local hk hn (fun h' hn' hs => ?_) hcls
    obtain ⟨oL, _, _, hoL, _⟩ := id hn
    refine h _ ⟨I.ok, I.os, I.bare, ⟨fun b o e n hb hx => ?_, fun b o e n hb hx => ?_, I.base.free, fun b o e hx => ?_, I.base.tups, I.base.frzs, I.base.tbls⟩, ⟨_, hn', fun j y v' e1 e2 e3 => ?_⟩, fun y c e => ?_, I.free, I.freeC, fun p hp => ?_, tracked ⟨oL, hoL, I.free⟩ hs, by simpa using I.len⟩ ⟨_, hs, .inl rfl⟩
    · exact (hs.2 b (Nat.ne_of_lt (Nat.lt_of_lt_of_le (Heap.lt_size e) I.ok.above))).trans (I.base.keep b o e n hb hx)
    · obtain ⟨sl, e1⟩ := I.base.slot b o e n hb hx
      exact ⟨sl, (hs.2 b (Nat.ne_of_lt (Nat.lt_of_lt_of_le (Heap.lt_size e) I.ok.above))).trans e1⟩
    · obtain ⟨o', e1⟩ := I.base.there b o e hx
      exact ⟨o', (hs.2 b (Nat.ne_of_lt (Nat.lt_of_lt_of_le (Heap.lt_size e) I.ok.above))).trans e1⟩
    · by_cases hj : j = i
      · subst hj
        rw [hi] at e1; cases e1
        rw [List.getElem?_set_self hiσ] at e2
        cases e2
        exact ⟨u, r, .inl ⟨hk, by simp⟩⟩
      · rw [List.getElem?_set_ne (Ne.symm hj)] at e2
        obtain ⟨u', r', q⟩ := hl j y v' e1 e2 e3
        refine ⟨u', r', ?_⟩
        rcases q with ⟨k, e⟩ | ⟨k, c, e, z⟩
        · refine .inl ⟨k, ?_⟩
          have : y ≠ x := fun e => hj (nodup_ix hN e1 (e ▸ hi))
          simp [this, e]
        · exact .inr ⟨k, c, e, z.sameBut hs (cne y c e)⟩
    · obtain ⟨w', z⟩ := I.cell y c e
      exact ⟨w', z.sameBut hs (cne y c e)⟩
    · obtain ⟨e, n, ne, nf, d⟩ := I.pin p hp
      exact ⟨(hs.2 p.1 ne).trans e, n, ne, nf, d⟩
  · have hfn : X.fn x = true := by
      rcases hf with z | z
      · exact z
      · rw [z] at hk; cases hk
    obtain ⟨c, hc⟩ := I.ok.has x (.inl hk)
    obtain ⟨w', z⟩ := I.cell x c hc
    refine wpAny_storeName_cell I.ok.kind hk hc z (fun h' hc' hs => ?_)
    obtain ⟨oc, hoc, hocd⟩ := id z
    refine h { s with heap := h' } ⟨I.ok, I.os, I.bare, ⟨fun b o e n hb hx => ?_, fun b o e n hb hx => ?_, I.base.free, fun b o e hx => ?_, I.base.tups, I.base.frzs, I.base.tbls⟩, ⟨m, hn.sameBut hs (Ne.symm (cne x c hc)), fun j y v' e1 e2 e3 => ?_⟩, fun y c' e => ?_, I.free, I.freeC, fun p hp => ?_, tracked ⟨oc, hoc, I.freeC x c hc⟩ hs, by simpa using I.len⟩ ⟨c, hs, .inr hc⟩
    · exact (hs.2 b (Nat.ne_of_lt (Nat.lt_of_lt_of_le (Heap.lt_size e) (I.ok.cab x c hfn hc)))).trans (I.base.keep b o e n hb hx)
    · obtain ⟨sl, e1⟩ := I.base.slot b o e n hb hx
      exact ⟨sl, (hs.2 b (Nat.ne_of_lt (Nat.lt_of_lt_of_le (Heap.lt_size e) (I.ok.cab x c hfn hc)))).trans e1⟩
    · obtain ⟨o', e1⟩ := I.base.there b o e hx
      exact ⟨o', (hs.2 b (Nat.ne_of_lt (Nat.lt_of_lt_of_le (Heap.lt_size e) (I.ok.cab x c hfn hc)))).trans e1⟩
    · by_cases hj : j = i
      · subst hj
        rw [hi] at e1; cases e1
        rw [List.getElem?_set_self hiσ] at e2
        cases e2
        exact ⟨u, r, .inr ⟨.inl hk, c, hc, hc'⟩⟩
      · rw [List.getElem?_set_ne (Ne.symm hj)] at e2
        obtain ⟨u', r', q⟩ := hl j y v' e1 e2 e3
        refine ⟨u', r', ?_⟩
        rcases q with q | ⟨k, c', e, z'⟩
        · exact .inl q
        · refine .inr ⟨k, c', e, z'.sameBut hs ?_⟩
          rintro rfl
          exact hj (nodup_ix hN e1 (I.ok.inj _ _ _ e hc ▸ hi))
    · by_cases hcc : c' = c
      · subst hcc; exact ⟨_, hc'⟩
      · obtain ⟨w2, z2⟩ := I.cell y c' e
        exact ⟨w2, z2.sameBut hs hcc⟩
    · obtain ⟨e, n, ne, nf, d⟩ := I.pin p hp
      refine ⟨(hs.2 p.1 ?_).trans e, n, ne, nf, d⟩
      intro q
      rw [q, hoc] at e
      have q' : oc = p.2 := Option.some.inj e
      exact d w' (by rw [← q']; exact hocd)
theorem store_ok {M : Model} {A : Around} {E : Value → Shared → Prop} {i : Nat} {x : Str} {v : V} {u : Value} {Q : Unit → Shared → Prop} (I : Inv X pins σ H s) (hN : X.N.Nodup) (hi : X.N[i]? = some x) (hx : Loc X.env.scope x) (r : RelV v u)
    (h : ∀ s', Inv X pins (σ.set i (some v)) H s' → Q () s') (hf : X.fn x = true ∨ X.env.scope.names.lookup x = some .local := by first | exact .inl rfl | exact .inr rfl | assumption) : wpAny M A (storeName X.env x u) Q E s :=
  store_ok2 I hN hi hx r (fun s' I' _ => h s' I') hf
/-- behind a call or a block, the state as it is -/
theorem Inv.call' {s' : Shared} {ch : List Addr} (I : Inv X pins σ H s) (ho : s'.os = s.os) (u : Un (frs X.stack) ch H H' s.heap s'.heap) (hok : HOk X.prog X.w H' s'.heap) (hg : AllBare s'.gens)
    (hch : ∀ b ∈ ch, (b ∈ X.ex ∨ X.s₀.heap.objs.size ≤ b) ∧ b ≠ X.env.locals ∧ (∀ x c, X.env.cells.lookup x = some c → c ≠ b) ∧ ∀ p ∈ X.pn ++ pins, p.1 ≠ b) : Inv X pins σ H' s' := by
  obtain ⟨h', g', d', t', o'⟩ := s'
  have e : o' = s.os := ho
  subst e
  exact I.call (g' := g') (t' := t') (d' := d') u hok hg hch
end

/-! ### the judgements -/
/-- an exception: its class, its own dict's address (where it has one), the abstract heap behind it -/
abbrev XK := Value → Option Addr → Hp → Prop
abbrev St := List (Option V)
abbrev VK := V → Hp → Prop
/-- an expression's reading; a test's; an argument list's -/
abbrev TE := St → Hp → VK → Prop
abbrev TT := St → Hp → (Bool → Hp → Prop) → Prop
abbrev TA := St → Hp → (List V → Hp → Prop) → Prop
/-- what is wanted behind a statement -/
structure Ends where
  nx : St → Hp → Prop
  rt : VK
  bk : St → Hp → Prop := fun _ _ => False
  ct : St → Hp → Prop := fun _ _ => False
abbrev TS := Ends → St → Hp → Prop

def EP (X : Cx) (pins : List (Addr × Obj)) (σ : St) (Q : VK) (u : Value) (s' : Shared) : Prop := ∃ v H', Inv X pins σ H' s' ∧ RelV v u ∧ Q v H'
def TP (X : Cx) (pins : List (Addr × Obj)) (σ : St) (Q : Bool → Hp → Prop) (b : Bool) (s' : Shared) : Prop := ∃ H', Inv X pins σ H' s' ∧ Q b H'
def AP (X : Cx) (pins : List (Addr × Obj)) (σ : St) (Q : List V → Hp → Prop) (us : List Value) (s' : Shared) : Prop := ∃ vs H', Inv X pins σ H' s' ∧ Vals vs us ∧ Q vs H'
def SP (X : Cx) (pins : List (Addr × Obj)) (D : Ends) (f : Flow) (s' : Shared) : Prop :=
  match f with
  | .next => ∃ σ' H', Inv X pins σ' H' s' ∧ D.nx σ' H'
  | .brk => ∃ σ' H', Inv X pins σ' H' s' ∧ D.bk σ' H'
  | .cont => ∃ σ' H', Inv X pins σ' H' s' ∧ D.ct σ' H'
  | .ret u => ∃ v σ' H', Inv X pins σ' H' s' ∧ RelV v u ∧ D.rt v H'

def PE (X : Cx) (e : Expr) (t : TE) : Prop :=
  ∀ (pins : List (Addr × Obj)) (s : Shared) (σ : St) (H : Hp) (Q : VK), Inv X pins σ H s → t σ H Q → wpAny (model X.prog X.w) X.A (eval e X.env) (EP X pins σ Q) X.xe s
def PT (X : Cx) (e : Expr) (t : TT) : Prop :=
  ∀ (pins : List (Addr × Obj)) (s : Shared) (σ : St) (H : Hp) (Q : Bool → Hp → Prop), Inv X pins σ H s → t σ H Q → wpAny (model X.prog X.w) X.A (isTrue e X.env (eval e X.env)) (TP X pins σ Q) X.xe s
/-- a test whatever its 'whole' is (and, or) -/
def PW (X : Cx) (e : Expr) (t : TT) : Prop :=
  ∀ (whole : Sem Value) (pins : List (Addr × Obj)) (s : Shared) (σ : St) (H : Hp) (Q : Bool → Hp → Prop), Inv X pins σ H s → t σ H Q → wpAny (model X.prog X.w) X.A (isTrue e X.env whole) (TP X pins σ Q) X.xe s
theorem PW.pt {X : Cx} {e : Expr} {t : TT} (h : PW X e t) : PT X e t := h _
/-- an argument list (no star), from the left -/
def PA (X : Cx) (es : List Expr) (t : TA) : Prop :=
  ∀ (pos : Pos) (pins : List (Addr × Obj)) (s : Shared) (σ : St) (H : Hp) (Q : List V → Hp → Prop), Inv X pins σ H s → t σ H Q → wpAny (model X.prog X.w) X.A (spliced (backTo pos (starEach es X.env))) (AP X pins σ Q) X.xe s
def PS (X : Cx) (st : Stmt) (t : TS) : Prop :=
  ∀ (pins : List (Addr × Obj)) (s : Shared) (σ : St) (H : Hp) (D : Ends), Inv X pins σ H s → t D σ H → wpAny (model X.prog X.w) X.A (exec st X.env) (SP X pins D) X.xe s
def PSs (X : Cx) (st : List Stmt) (t : TS) : Prop :=
  ∀ (pins : List (Addr × Obj)) (s : Shared) (σ : St) (H : Hp) (D : Ends), Inv X pins σ H s → t D σ H → wpAny (model X.prog X.w) X.A (execs st X.env) (SP X pins D) X.xe s
/-- weaken the end -/
theorem thn {α : Type} {t : Sem α} {Q Q' : α → Shared → Prop} {M : Model} {A : Around} {E : Value → Shared → Prop} {s : Shared} (h : wpAny M A t Q E s) (hQ : ∀ a s, Q a s → Q' a s) : wpAny M A t Q' E s := wpAny_mono h hQ fun _ _ x => x
end L2

namespace L2
open PySem PySem.Spec PyProof.Rows
section
variable {X : Cx}

/-! ### names and constants -/
def tVar (i : Nat) : TE := fun σ H Q => ∃ v, σ[i]? = some (some v) ∧ Q v H
def tC (v : V) : TE := fun _ H Q => Q v H
theorem pe_var {i : Nat} {x : Str} {pos : Pos} (hN : X.N[i]? = some x) (hv : Vis X.env.scope x) (hd : (x == ("__debug__" : Str)) = false := by decide) (hcd : (x == ("__classdict__" : Str)) = false := by decide) : PE X (.Name x pos) (tVar i) := by
  intro pins s σ H Q I h
  obtain ⟨v, e, h⟩ := h
  obtain ⟨m, hn, hl⟩ := I.loc
  obtain ⟨u, r, l⟩ := hl i x v hN e hv
  have fin : EP X pins σ Q u s := ⟨v, H, I, r, h⟩
  rcases l with ⟨hk, hm⟩ | ⟨hk, c, hc, hcell⟩
  · exact wpAny_Name (wpAny_loadName_local I.ok.kind hk hn hm fin) hd
  · rcases hk with hk | hk
    · exact wpAny_Name (wpAny_loadName_cell I.ok.kind hk hc hcell fin) hd
    · exact wpAny_Name (wpAny_loadName_free I.ok.kind hk hc hcell fin hcd) hd
theorem pe_int {i j pos} : PE X (.Constant (.int i) j pos) (tC (.int i)) := fun _ _ _ H _ I h => wpAny_Constant_int ⟨.int i, H, I.tok _, ⟨_, rfl⟩, h⟩
theorem pe_bl {b j pos} : PE X (.Constant (.bool b) j pos) (tC (.bl b)) := fun _ _ _ H _ I h => Constant_bool ⟨.bl b, H, I, rfl, h⟩
theorem pe_non {j pos} : PE X (.Constant .none j pos) (tC .non) := fun _ _ _ H _ I h => Constant_none ⟨.non, H, I, rfl, h⟩
theorem pe_str {x j pos} : PE X (.Constant (.str x) j pos) (tC (.str x)) := fun _ _ _ H _ I h => Calls.Constant_str ⟨.str x, H, I.tok _, ⟨_, rfl⟩, h⟩

/-- a global name of the def -/
def Gl (X : Cx) (x : Str) : Prop := X.env.kindOf x = some .globalImplicit
theorem ld_glob {E : Value → Shared → Prop} {pins : List (Addr × Obj)} {s : Shared} {σ : St} {H : Hp} {x : Str} {u : Value} {pos : Pos} {Q : Value → Shared → Prop} (I : Inv X pins σ H s) (hg : Gl X x) (hm : X.mg x = some u) (h : Q u s)
    (hd : (x == ("__debug__" : Str)) = false := by decide) : wpAny (model X.prog X.w) X.A (eval (.Name x pos) X.env) Q E s :=
  Calls.Name_function_global I.ok.kind hg (Calls.loadGlobal_global (by rw [I.ok.glob]; exact I.mod.glob.keeps I.bk) hm h) hd
theorem ld_blt {E : Value → Shared → Prop} {pins : List (Addr × Obj)} {s : Shared} {σ : St} {H : Hp} {x : Str} {u : Value} {pos : Pos} {Q : Value → Shared → Prop} (I : Inv X pins σ H s) (hg : Gl X x) (hm : X.mg x = none) (hv : bootBuiltins x = some u) (h : Q u s)
    (hn : x ≠ "__name__" := by decide) (hd : (x == ("__debug__" : Str)) = false := by decide) : wpAny (model X.prog X.w) X.A (eval (.Name x pos) X.env) Q E s := by
  obtain ⟨mb, h1, h2⟩ := I.mod.blt
  exact Calls.Name_function_global I.ok.kind hg (Calls.loadGlobal_builtin (by rw [I.ok.glob]; exact I.mod.glob.keeps I.bk) hm (by rw [I.ok.blt]; exact h1.keeps I.bk) ((h2 x hn).trans hv) h) hd
/-- a module's constant, a class, a function, as a value -/
theorem pe_glob {x : Str} {v : V} {u : Value} {pos : Pos} (hg : Gl X x) (hm : X.mg x = some u) (r : RelV v u) (hd : (x == ("__debug__" : Str)) = false := by decide) : PE X (.Name x pos) (tC v) :=
  fun _ _ _ H _ I h => ld_glob I hg hm ⟨v, H, I, r, h⟩ hd
/-! ### arithmetic -/
variable {a b : Expr} {ta tb : TE} {pos : Pos}
/-! ### comparisons -/
def PC (X : Cx) (op : CmpOp) (a b : Expr) (t : TE) : Prop :=
  ∀ (pins : List (Addr × Obj)) (s : Shared) (σ : St) (H : Hp) (Q : VK), Inv X pins σ H s → t σ H Q →
    wpAny (model X.prog X.w) X.A (eval a X.env) (fun v s₁ => wpAny (model X.prog X.w) X.A (eval b X.env) (fun u s₂ => wpAny (model X.prog X.w) X.A (compareOp op v u) (EP X pins σ Q) X.xe s₂) X.xe s₁) X.xe s
theorem nobehind (b : Expr) {op : CmpOp} (h : op ≠ .In) (h2 : op ≠ .NotIn) : behindInMarks op b = false := by
  have e1 : (op == CmpOp.In) = false := by cases op <;> first | rfl | exact absurd rfl h
  have e2 : (op == CmpOp.NotIn) = false := by cases op <;> first | rfl | exact absurd rfl h2
  cases b <;> simp [behindInMarks, e1, e2]
/-- is None -/
def tIsN (ta : TE) : TE := fun σ H Q => ta σ H fun x H1 => Q (.bl (decide (x = .non))) H1
def tNotN (ta : TE) : TE := fun σ H Q => ta σ H fun x H1 => Q (.bl (!decide (x = .non))) H1
theorem RelV.none_iff {x : V} {v : Value} (r : RelV x v) : (v == Value.none) = decide (x = .non) := by
  cases x with
  | non => cases r; rfl
  | bl _ => cases r; rfl
  | int _ => obtain ⟨t, rfl⟩ := r; rfl
  | str _ => obtain ⟨t, rfl⟩ := r; rfl
  | byt _ => obtain ⟨t, rfl⟩ := r; rfl
  | flt _ => obtain ⟨t, rfl⟩ := r; rfl
  | ref _ => cases r; rfl
  | ty _ => cases r; rfl
/-- a comparison as a value, as a test -/
def tB (t : TE) : TT := fun σ H Q => t σ H fun x H1 => ∃ c, x = .bl c ∧ Q c H1
theorem pt_cmp {op : CmpOp} {t : TE} (h : PC X op a b t) (h1 : behindInMarks op b = false := by first | exact nobehind _ (by decide) (by decide) | rfl) : PT X (.Compare a [op] [b] pos) (tB t) := by
  intro pins s σ H Q I hw
  refine wpAny_isTrue_Compare1 (thn (h pins s σ H _ I hw) fun v s1 h1 => thn h1 fun u s2 h2 => thn h2 fun c s3 ⟨x, H1, I1, r1, q1⟩ => ?_) h1
  obtain ⟨d, rfl, q⟩ := q1
  cases r1
  exact wpAny_truthy_bool ⟨H1, I1, q⟩
/-- an expression whose value is a bool, as a test -/
theorem pt_val {e : Expr} {t : TE} (h : PE X e t) (he : ∀ whole, isTrue e X.env whole = (do let v ← whole; standAt e.pos; holding [v] (truthy v)) := by intro _; rfl) : PT X e (tB t) := by
  intro pins s σ H Q I hw
  refine isTrue_plain (thn (h pins s σ H _ I hw) fun v s1 ⟨x, H1, I1, r1, q1⟩ => ?_) (he _)
  obtain ⟨d, rfl, q⟩ := q1
  cases r1
  exact wpAny_truthy_bool ⟨H1, I1, q⟩

/-! ### and, or, not -/
variable {tA tB' : TT} {rest : List Expr}
def tAnd (t u : TT) : TT := fun σ H Q => t σ H fun c H1 => if c = true then u σ H1 Q else Q false H1
def tOr (t u : TT) : TT := fun σ H Q => t σ H fun c H1 => if c = true then Q true H1 else u σ H1 Q
def tNot (t : TT) : TT := fun σ H Q => t σ H fun c H1 => Q (!c) H1
theorem pw_and1 (ha : PT X a tA) : PW X (.BoolOp .And [a] pos) tA := by
  intro wh pins s σ H Q I h
  refine isTrue_and (thn (ha pins s σ H Q I h) fun c s1 e => ?_)
  cases c with
  | true => exact isTrue_and_nil e
  | false => exact e
theorem pw_or1 (ha : PT X a tA) : PW X (.BoolOp .Or [a] pos) tA := by
  intro wh pins s σ H Q I h
  refine isTrue_or (thn (ha pins s σ H Q I h) fun c s1 e => ?_)
  cases c with
  | false => exact isTrue_or_nil e
  | true => exact e
theorem pw_and (ha : PT X a tA) (hb : PW X (.BoolOp .And (b :: rest) pos) tB') : PW X (.BoolOp .And (a :: b :: rest) pos) (tAnd tA tB') := by
  intro wh pins s σ H Q I h
  refine isTrue_and (thn (ha pins s σ H _ I h) fun c s1 ⟨H1, I1, q1⟩ => ?_)
  cases c with
  | true => exact hb wh pins s1 σ H1 Q I1 q1
  | false => exact ⟨H1, I1, q1⟩
theorem pw_or (ha : PT X a tA) (hb : PW X (.BoolOp .Or (b :: rest) pos) tB') : PW X (.BoolOp .Or (a :: b :: rest) pos) (tOr tA tB') := by
  intro wh pins s σ H Q I h
  refine isTrue_or (thn (ha pins s σ H _ I h) fun c s1 ⟨H1, I1, q1⟩ => ?_)
  cases c with
  | true => exact ⟨H1, I1, q1⟩
  | false => exact hb wh pins s1 σ H1 Q I1 q1
theorem pt_not (ha : PT X a tA) : PT X (.UnaryOp .Not a pos) (tNot tA) := by
  intro pins s σ H Q I h
  exact isTrue_not (ha pins s σ H (fun c H1 => Q (!c) H1) I h)
/-- .. as values (bools) -/
def tAndV (ta tb : TE) : TE := fun σ H Q => ta σ H fun x H1 => ∃ c, x = .bl c ∧ if c = true then tb σ H1 Q else Q (.bl false) H1
def tOrV (ta tb : TE) : TE := fun σ H Q => ta σ H fun x H1 => ∃ c, x = .bl c ∧ if c = true then Q (.bl true) H1 else tb σ H1 Q
def tNotV (ta : TE) : TE := fun σ H Q => ta σ H fun x H1 => ∃ c, x = .bl c ∧ Q (.bl (!c)) H1
theorem pe_one {op} {t : TE} (h : PE X a t) : PE X (.BoolOp op [a] pos) t := fun pins s σ H Q I hw => BoolOp_one (h pins s σ H Q I hw)
theorem pe_and (ha : PE X a ta) (hb : PE X (.BoolOp .And (b :: rest) pos) tb) : PE X (.BoolOp .And (a :: b :: rest) pos) (tAndV ta tb) := by
  intro pins s σ H Q I h
  refine BoolOp_and (thn (ha pins s σ H _ I h) fun v s1 ⟨x, H1, I1, r1, q1⟩ => ?_)
  obtain ⟨c, rfl, q1⟩ := q1
  cases r1
  refine wpAny_truthy_bool ?_
  cases c with
  | true => exact hb pins s1 σ H1 Q I1 q1
  | false => exact ⟨.bl false, H1, I1, rfl, q1⟩
/-- a if t else b -/
def tIf (t : TT) (ta tb : TE) : TE := fun σ H Q => t σ H fun c H1 => if c = true then ta σ H1 Q else tb σ H1 Q
theorem pe_ifExp {c : Expr} (hc : PT X c tA) (ha : PE X a ta) (hb : PE X b tb) : PE X (.IfExp c a b pos) (tIf tA ta tb) := by
  intro pins s σ H Q I h
  refine wpAny_IfExp (thn (hc pins s σ H _ I h) fun d s1 ⟨H1, I1, q1⟩ => ?_)
  cases d with
  | true => exact ha pins s1 σ H1 Q I1 q1
  | false => exact hb pins s1 σ H1 Q I1 q1
end
end L2

namespace L2
open PySem PySem.Spec PyProof.Rows

/-! ### a list, a tuple that is read: tracked, frozen, or an object of the module -/
def SqL (K : PySem.W.Frag) (H : Hp) (a : Addr) (xs : List V) : Prop :=
  Rd H a (.lst xs) ∨
    ∃ (o : Obj) (its : Array Value) (n : Nat), K.lookup a = some o ∧ o.cls = .type "list" ∧ o.dict = none ∧ o.data = .seq its n ∧ its.size ≤ sizeLine ∧ Vals xs its.toList
def SqT (K : PySem.W.Frag) (H : Hp) (a : Addr) (xs : List V) : Prop :=
  Rd H a (.tup xs) ∨
    ∃ (o : Obj) (its : Array Value) (n : Nat), K.lookup a = some o ∧ o.cls = .type "tuple" ∧ o.data = .seq its n ∧ its.size ≤ sizeLine ∧ Vals xs its.toList
def absV : Value → Option V
  | .none => some .non
  | .bool b => some (.bl b)
  | .int i _ => some (.int i)
  | .str x _ => some (.str x)
  | .bytes b _ => some (.byt b)
  | .float b _ => some (.flt b)
  | .ref a => some (.ref a)
  | .type n => some (.ty n)
  | _ => none
theorem RelV.abs {x : V} {u : Value} (r : RelV x u) : absV u = some x := by
  cases x with
  | non => cases r; rfl
  | bl _ => cases r; rfl
  | int _ => obtain ⟨t, rfl⟩ := r; rfl
  | str _ => obtain ⟨t, rfl⟩ := r; rfl
  | byt _ => obtain ⟨t, rfl⟩ := r; rfl
  | flt _ => obtain ⟨t, rfl⟩ := r; rfl
  | ref _ => cases r; rfl
  | ty _ => cases r; rfl
theorem RelV.inj {x y : V} {u : Value} (r : RelV x u) (q : RelV y u) : x = y := Option.some.inj (r.abs.symm.trans q.abs)
theorem Vals.inj : ∀ {xs ys : List V} {us : List Value}, Vals xs us → Vals ys us → xs = ys
  | _, _, _, .nil, .nil => rfl
  | _, _, _, .cons r t, .cons r' t' => by rw [r.inj r', Vals.inj t t']
section
variable {X : Cx} {pins : List (Addr × Obj)} {σ : St} {H : Hp} {s : Shared} {a : Addr} {xs ys : List V}
theorem SqL.of {K : PySem.W.Frag} (h : H a = some (.lst xs)) : SqL K H a xs := .inl (.inl h)
theorem SqT.of {K : PySem.W.Frag} (h : H a = some (.tup xs)) : SqT K H a xs := .inl (.inl h)
theorem Inv.list (I : Inv X pins σ H s) (h : SqL X.K H a xs) : ∃ its : List Value, Vals xs its ∧ PlainL s.heap a its.toArray ∧ xs.length ≤ sizeLine := by
  rcases h with h | ⟨o, its, n, hk, hc, hd, hs, hz, r⟩
  · obtain ⟨z, its, n, r, e⟩ := h.ok I.hok
    exact ⟨its, r, ⟨_, n, e, rfl, rfl, rfl⟩, z⟩
  · refine ⟨its.toList, r, ⟨o, n, I.kIn a o hk, hc, hd, by simpa using hs⟩, ?_⟩
    have e := r.length
    simp only [Array.length_toList] at e
    omega
theorem Inv.tuple (I : Inv X pins σ H s) (h : SqT X.K H a xs) : ∃ its : List Value, Vals xs its ∧ IsTup s.heap a its.toArray ∧ xs.length ≤ sizeLine := by
  rcases h with h | ⟨o, its, n, hk, hc, hs, hz, r⟩
  · obtain ⟨z, its, r, p⟩ := h.ok I.hok
    exact ⟨its, r, p, z⟩
  · refine ⟨its.toList, r, ⟨o, I.kIn a o hk, hc, n, by simpa using hs⟩, ?_⟩
    have e := r.length
    simp only [Array.length_toList] at e
    omega
theorem Inv.list_inj (I : Inv X pins σ H s) (h : SqL X.K H a xs) (h' : SqL X.K H a ys) : xs = ys := by
  obtain ⟨its, r, ⟨o, n, e, _, _, d⟩, _⟩ := I.list h
  obtain ⟨its', r', ⟨o', n', e', _, _, d'⟩, _⟩ := I.list h'
  rw [e] at e'; cases e'
  rw [d] at d'
  injection d' with d1 _
  have : its = its' := by simpa using congrArg Array.toList d1
  subst this
  exact r.inj r'
end

/-! ### another wish about exceptions -/
abbrev Cx.wish (X : Cx) (E : Value → Shared → Prop) : Cx := { X with xe := E }
/-- no exception leaves -/
abbrev Cx.nox (X : Cx) : Cx := X.wish fun _ _ => False
theorem Cx.Ok.wish {X : Cx} (ok : X.Ok) (E : Value → Shared → Prop) : (X.wish E).Ok :=
  ⟨ok.mod, ok.kind, ok.glob, ok.blt, ok.above, ok.inj, ok.has, ok.cab, ok.hd, ok.frames, ok.stk, ok.exf, ok.bs, ok.bsz, ok.noex, ok.exfs, ok.funs, ok.frf⟩
theorem Cx.Ok.unwish {X : Cx} {E : Value → Shared → Prop} (ok : (X.wish E).Ok) : X.Ok :=
  ⟨ok.mod, ok.kind, ok.glob, ok.blt, ok.above, ok.inj, ok.has, ok.cab, ok.hd, ok.frames, ok.stk, ok.exf, ok.bs, ok.bsz, ok.noex, ok.exfs, ok.funs, ok.frf⟩
section
variable {X : Cx} {pins : List (Addr × Obj)} {σ : St} {H : Hp} {s : Shared} {E : Value → Shared → Prop}
theorem Inv.wish (I : Inv X pins σ H s) (E : Value → Shared → Prop) : Inv (X.wish E) pins σ H s := ⟨I.ok.wish E, I.os, I.bare, I.base, I.loc, I.cell, I.free, I.freeC, I.pin, I.hok, I.len⟩
theorem Inv.unwish (I : Inv (X.wish E) pins σ H s) : Inv X pins σ H s := ⟨I.ok.unwish, I.os, I.bare, I.base, I.loc, I.cell, I.free, I.freeC, I.pin, I.hok, I.len⟩
theorem SP.unwish {D : Ends} {f : Flow} {s' : Shared} (h : SP (X.wish E) pins D f s') : SP X pins D f s' := by
  cases f with
  | next => obtain ⟨σ', H', I, q⟩ := h; exact ⟨σ', H', I.unwish, q⟩
  | brk => obtain ⟨σ', H', I, q⟩ := h; exact ⟨σ', H', I.unwish, q⟩
  | cont => obtain ⟨σ', H', I, q⟩ := h; exact ⟨σ', H', I.unwish, q⟩
  | ret u => obtain ⟨v, σ', H', I, r, q⟩ := h; exact ⟨v, σ', H', I.unwish, r, q⟩
theorem PE.nox {e : Expr} {t : TE} (h : PE X.nox e t) : PE X e t := fun pins s σ H Q I hw =>
  wpAny_mono (h pins s σ H Q (I.wish _) hw) (fun _ _ ⟨v, H', I', r, q⟩ => ⟨v, H', I'.unwish, r, q⟩) fun _ _ z => False.elim z
theorem PT.nox {e : Expr} {t : TT} (h : PT X.nox e t) : PT X e t := fun pins s σ H Q I hw =>
  wpAny_mono (h pins s σ H Q (I.wish _) hw) (fun _ _ ⟨H', I', q⟩ => ⟨H', I'.unwish, q⟩) fun _ _ z => False.elim z
theorem PSs.nox {st : List Stmt} {t : TS} (h : PSs X.nox st t) : PSs X st t := fun pins s σ H D I hw =>
  wpAny_mono (h pins s σ H D (I.wish _) hw) (fun _ _ q => q.unwish) fun _ _ z => False.elim z
end

/-! ### blocks and small statements -/
section
variable {X : Cx} {st : Stmt} {rest : List Stmt} {t u : TS} {e : Expr} {te : TE} {pos : Pos}
def tNext : TS := fun D σ H => D.nx σ H
def tSeq (t u : TS) : TS := fun D σ H => t { D with nx := u D } σ H
theorem pss_nil : PSs X [] tNext := fun _ _ σ H _ I h => wpAny_execs_nil ⟨σ, H, I, h⟩
theorem pss_cons (h1 : PS X st t) (h2 : PSs X rest u) : PSs X (st :: rest) (tSeq t u) := by
  intro pins s σ H D I h
  refine wpAny_execs_cons (thn (h1 pins s σ H { D with nx := u D } I h) fun f s1 q => ?_)
  cases f with
  | next =>
    obtain ⟨σ', H', I', q⟩ := q
    exact h2 pins s1 σ' H' D I' q
  | ret v => exact q
  | brk => exact q
  | cont => exact q
theorem pss_one (h1 : PS X st t) : PSs X [st] t := by
  intro pins s σ H D I h
  refine wpAny_execs_cons (thn (h1 pins s σ H D I h) fun f s1 q => ?_)
  cases f with
  | next => exact wpAny_execs_nil q
  | ret v => exact q
  | brk => exact q
  | cont => exact q
/-- in a def's body nothing is shown -/
theorem Inv.quiet {pins : List (Addr × Obj)} {σ : St} {H : Hp} {s : Shared} (I : Inv X pins σ H s) : interactive X.env = false := by simp [interactive, I.ok.kind]
/-- an expression whose value is dropped -/
def tDrop (te : TE) : TS := fun D σ H => te σ H fun _ H1 => D.nx σ H1
theorem ps_expr (he : PE X e te) (hs : swapsWith e none pos.line X.env = pure false := by rfl) : PS X (.Expr e pos) (tDrop te) := by
  intro pins s σ H D I h
  exact wpAny_Expr_any (thn (he pins s σ H _ I h) fun v s1 ⟨x, H1, I1, r1, q1⟩ => ⟨σ, H1, I1, q1⟩) I.quiet hs
def tRet (te : TE) : TS := fun D σ H => te σ H D.rt
theorem ps_ret (he : PE X e te) : PS X (.Return (some e) pos) (tRet te) := by
  intro pins s σ H D I h
  exact wpAny_Return_some (thn (he pins s σ H _ I h) fun v s1 ⟨x, H1, I1, r1, q1⟩ => ⟨x, σ, H1, I1, r1, q1⟩)
def tRetN : TS := fun D _ H => D.rt .non H
def tIfS (c : TT) (t u : TS) : TS := fun D σ H => c σ H fun b H1 => if b = true then t D σ H1 else u D σ H1
theorem ps_if {c : Expr} {a b : List Stmt} {tc : TT} (hc : PT X c tc) (ha : PSs X a t) (hb : PSs X b u) : PS X (.If c a b pos) (tIfS tc t u) := by
  intro pins s σ H D I h
  refine wpAny_If (thn (hc pins s σ H _ I h) fun d s1 ⟨H1, I1, q1⟩ => ?_)
  cases d with
  | true => exact ha pins s1 σ H1 D I1 q1
  | false => exact hb pins s1 σ H1 D I1 q1
end

/-! ### targets -/
abbrev TG := V → St → Hp → (St → Hp → Prop) → Prop
def PG (X : Cx) (target : Expr) (t : TG) : Prop :=
  ∀ (pins : List (Addr × Obj)) (s : Shared) (σ : St) (H : Hp) (v : V) (u : Value) (Q : St → Hp → Prop), Inv X pins σ H s → RelV v u → t v σ H Q →
    wpAny (model X.prog X.w) X.A (assign target X.env u) (fun _ s' => ∃ σ' H', Inv X pins σ' H' s' ∧ Q σ' H') X.xe s
/-- o[i] = v, by values -/
abbrev TSet := V → V → V → Hp → (Hp → Prop) → Prop
def PSet (X : Cx) (t : TSet) : Prop :=
  ∀ (pins : List (Addr × Obj)) (s : Shared) (σ : St) (H : Hp) (o i v : V) (ov iv u : Value) (Q : Hp → Prop), Inv X pins σ H s → RelV o ov → RelV i iv → RelV v u → t o i v H Q →
    wpAny (model X.prog X.w) X.A (setItem ov iv u) (fun _ s' => ∃ H', Inv X pins σ H' s' ∧ Q H') X.xe s
/-- a op= b, by values -/
abbrev TIp := V → V → Hp → VK → Prop
def PIp (X : Cx) (op : Operator) (t : TIp) : Prop :=
  ∀ (pins : List (Addr × Obj)) (s : Shared) (σ : St) (H : Hp) (x y : V) (v u : Value) (Q : VK), Inv X pins σ H s → RelV x v → RelV y u → t x y H Q →
    wpAny (model X.prog X.w) X.A (inplaceOp op v u) (EP X pins σ Q) X.xe s
section
variable {X : Cx} {pos : Pos}
def gName (i : Nat) : TG := fun v σ H Q => Q (σ.set i (some v)) H
theorem pg_name {i : Nat} {x : Str} (hN : X.N.Nodup) (hi : X.N[i]? = some x) (hx : Loc X.env.scope x) (hf : X.fn x = true ∨ X.env.scope.names.lookup x = some .local := by first | exact .inl rfl | exact .inr rfl | assumption) : PG X (.Name x pos) (gName i) := by
  intro pins s σ H v u Q I r h
  exact wpAny_assign_Name (store_ok I hN hi hx r (fun s' I' => ⟨_, H, I', h⟩) hf)
/-- o[i] = .. -/
def gSub (to ti : TE) (t : TSet) : TG := fun v σ H Q => to σ H fun o H1 => ti σ H1 fun i H2 => t o i v H2 fun H3 => Q σ H3
theorem pg_sub {o i : Expr} {to ti : TE} {t : TSet} (ho : PE X o to) (hi : PE X i ti) (hs : PSet X t)
    (ha : ∀ v, assign (.Subscript o i pos) X.env v = (do
      let ov ← holding [v] (eval o X.env)
      let iv ← holding [v, ov] (eval i X.env)
      standAt pos
      holding [v, ov, iv] (setItem ov iv v)
      release [v, ov, iv] []) := by intro _; rfl) : PG X (.Subscript o i pos) (gSub to ti t) := by
  intro pins s σ H v u Q I r h
  rw [ha]
  refine wpAny_bind (wpAny_holding (thn (ho pins s σ H _ I h) fun ov s1 ⟨x, H1, I1, r1, q1⟩ => ?_))
  refine wpAny_bind (wpAny_holding (thn (hi pins s1 σ H1 _ I1 q1) fun iv s2 ⟨y, H2, I2, r2, q2⟩ => ?_))
  refine wpAny_bind (wpAny_standAt (wpAny_bind (wpAny_holding (thn (hs pins s2 σ H2 x y v ov iv u _ I2 r1 r2 r q2) fun _ s3 ⟨H3, I3, q3⟩ => ?_))))
  exact wpAny_release ⟨σ, H3, I3, q3⟩
/-- target = value -/
def tAsg (te : TE) (g : TG) : TS := fun D σ H => te σ H fun x H1 => g x σ H1 D.nx
theorem ps_asg {tg e : Expr} {te : TE} {g : TG} (he : PE X e te) (hg : PG X tg g) (hs : swapsWithSole [tg] e pos.line X.env = pure false := by rfl) (hw : swappedStores [tg] e X.env = pure none := by rfl)
    (h1 : (assignEach [tg] X.env).map (·.2) = [assign tg X.env] := by rfl) : PS X (.Assign [tg] e pos) (tAsg te g) := by
  intro pins s σ H D I h
  refine wpAny_Assign_stores (thn (he pins s σ H _ I h) fun v s1 ⟨x, H1, I1, r1, q1⟩ => ?_) hs hw
  rw [h1]
  exact thn (hg pins s1 σ H1 x v _ I1 r1 q1) fun _ s2 q => q
/-- name = value -/
theorem ps_set {i : Nat} {x : Str} {e : Expr} {te : TE} {pos' : Pos} (hN : X.N.Nodup) (hi : X.N[i]? = some x) (hx : Loc X.env.scope x) (he : PE X e te) (hs : swapsWith e (some (.Name x pos')) pos.line X.env = pure false := by rfl) (hf : X.fn x = true ∨ X.env.scope.names.lookup x = some .local := by first | exact .inl rfl | exact .inr rfl | assumption) :
    PS X (.Assign [.Name x pos'] e pos) (tAsg te (gName i)) := by
  intro pins s σ H D I h
  refine wpAny_Assign_Name (thn (he pins s σ H _ I h) fun v s1 ⟨y, H1, I1, r1, q1⟩ => ?_) hs
  exact store_ok I1 hN hi hx r1 (fun s2 I2 => ⟨_, H1, I2, q1⟩) hf
/-- a, b = x, y with plain local names: stored from the right; the pair itself is not tracked (the opening rows as in PyProof/Rows/TupAssign.lean:23) -/
def tPar (i j : Nat) (ta : TA) : TS := fun D σ H => ta σ H fun vs H1 => ∃ v w, vs = [v, w] ∧ D.nx ((σ.set i (some v)).set j (some w)) H1
/-- name op= e -/
def tAug (i : Nat) (te : TE) (ti : TIp) : TS := fun D σ H => ∃ x, σ[i]? = some (some x) ∧ te σ H fun y H1 => ti x y H1 fun z H2 => D.nx (σ.set i (some z)) H2
theorem ps_aug {i : Nat} {x : Str} {e : Expr} {te : TE} {op : Operator} {ti : TIp} {pos' : Pos} (hN : X.N.Nodup) (hi : X.N[i]? = some x) (hx : Loc X.env.scope x) (he : PE X e te) (ho : PIp X op ti) (hf : X.fn x = true ∨ X.env.scope.names.lookup x = some .local := by first | exact .inl rfl | exact .inr rfl | assumption) :
    PS X (.AugAssign (.Name x pos') op e pos) (tAug i te ti) := by
  intro pins s σ H D I h
  obtain ⟨v, e1, h⟩ := h
  obtain ⟨m, hn, hl⟩ := I.loc
  have vis : Vis X.env.scope x := by rcases hx with k | k; exact .inl k; exact .inr (.inl k)
  obtain ⟨u, r, l⟩ := hl i x v hi e1 vis
  refine wpAny_AugAssign_Name ?_
  have go : wpAny (model X.prog X.w) X.A (eval e X.env) (fun w s₂ => wpAny (model X.prog X.w) X.A (inplaceOp op u w) (fun r s₃ => wpAny (model X.prog X.w) X.A (storeName X.env x r) (fun _ => SP X pins D .next) X.xe s₃) X.xe s₂) X.xe s := by
    refine thn (he pins s σ H _ I h) fun w s1 ⟨y, H1, I1, r1, q1⟩ => ?_
    refine thn (ho pins s1 σ H1 v y u w _ I1 r r1 q1) fun z s2 ⟨zv, H2, I2, r2, q2⟩ => ?_
    exact store_ok I2 hN hi hx r2 (fun s3 I3 => ⟨_, H2, I3, q2⟩) hf
  rcases l with ⟨hk, hm⟩ | ⟨hk, c, hc, hcell⟩
  · exact wpAny_loadName_local I.ok.kind hk hn hm go
  · rcases hk with hk | hk
    · exact wpAny_loadName_cell I.ok.kind hk hc hcell go
    · rcases hx with k | k
      · have : X.env.scope.names.lookup x = some .free := hk
        rw [k] at this; cases this
      · have : X.env.scope.names.lookup x = some .free := hk
        rw [k] at this; cases this
/-- ints -/
def ipI (f : Int → Int → Int) : TIp := fun x y H Q => ∃ i j, x = .int i ∧ y = .int j ∧ Q (.int (f i j)) H
theorem ip_add : PIp X .Add (ipI fun i j => i + j) := by
  intro pins s σ H x y v u Q I r1 r2 h
  obtain ⟨i, j, e1, e2, q⟩ := h
  subst e1; subst e2
  obtain ⟨t, rfl⟩ := r1
  obtain ⟨t', rfl⟩ := r2
  exact iadd_int ⟨.int _, H, I.tok _, ⟨_, rfl⟩, q⟩
end

/-! ### while -/
section
variable {X : Cx} {pos : Pos}
/-- the invariant W with its measure -/
def tWhile (c : TT) (tb : TS) : TS := fun D σ H => ∃ W : Nat → St → Hp → Prop, (∃ m, W m σ H) ∧ ∀ m σ H, W m σ H →
  c σ H fun b H1 => if b = true then ∃ N : St → Hp → Prop, (∀ σ' H', N σ' H' → ∃ m', m' < m ∧ W m' σ' H') ∧ tb { D with nx := N, ct := N, bk := D.nx } σ H1 else D.nx σ H1
theorem ps_while {c : Expr} {body : List Stmt} {tc : TT} {tb : TS} (hp : PassesOwn (model X.prog X.w) X.A X.env X.xe) (hc : PT X c tc) (hb : PSs X body tb) : PS X (.While c body [] pos) (tWhile tc tb) := by
  intro pins s σ H D I h
  obtain ⟨W, ⟨m0, w0⟩, turn⟩ := h
  refine wpAny_While (codeAny_whileLoop (fun n s' => ∃ σ' H', Inv X pins σ' H' s' ∧ W n σ' H') ?_ m0 ⟨σ, H, I, w0⟩)
  rintro n s1 ⟨σ1, H1, I1, w1⟩
  refine wpAny_passesOwn hp (thn (hc pins s1 σ1 H1 _ I1 (turn n σ1 H1 w1)) fun b s2 ⟨H2, I2, q2⟩ => ?_)
  cases b with
  | true =>
    obtain ⟨N, hN, q2⟩ := q2
    rw [if_pos rfl]
    refine wpAny_passesOwn hp (thn (hb pins s2 σ1 H2 _ I2 q2) fun f s3 q3 => ?_)
    cases f with
    | next =>
      obtain ⟨σ3, H3, I3, n3⟩ := q3
      obtain ⟨m', hm, w3⟩ := hN σ3 H3 n3
      exact ⟨m', hm, σ3, H3, I3, w3⟩
    | cont =>
      obtain ⟨σ3, H3, I3, n3⟩ := q3
      obtain ⟨m', hm, w3⟩ := hN σ3 H3 n3
      exact ⟨m', hm, σ3, H3, I3, w3⟩
    | brk => exact q3
    | ret v => exact q3
  | false =>
    rw [if_neg Bool.false_ne_true]
    exact wpAny_execs_nil ⟨σ1, H2, I2, q2⟩
end

/-! ### what a loop or a comprehension walks -/
/-- at turn i: it yields x (the heap may grow), or it stops -/
structure It where
  go : Nat → Hp → Prop
  yld : Nat → Hp → V → Hp → Prop
  stop : Nat → Hp → Prop
/-- the iterator's own objects may turn: they are not the frame's, not pinned, younger than the entry (or a comprehension's own) -/
def FpOk (X : Cx) (pins : List (Addr × Obj)) (H : Hp) (b : Addr) : Prop :=
  H b = none ∧ b ≠ X.env.locals ∧ b ∉ X.fs ∧ (b ∈ X.ex ∨ X.s₀.heap.objs.size ≤ b) ∧ (∀ x c, X.env.cells.lookup x = some c → c ≠ b) ∧ ∀ p ∈ X.pn ++ pins, p.1 ≠ b
theorem Inv.fpOk {X : Cx} {pins : List (Addr × Obj)} {σ : St} {H H' : Hp} {s : Shared} {b : Addr} (I : Inv X pins σ H s) (hb : s.heap.objs.size ≤ b) (hn : H' b = none) : FpOk X pins H' b := by
  refine ⟨hn, Nat.ne_of_gt (Nat.lt_of_lt_of_le I.lt hb), I.nofs hb, .inr (Nat.le_trans I.sz hb), fun x c e z => ?_, fun p hp z => ?_⟩
  · obtain ⟨v, q⟩ := I.cell x c e
    exact absurd (Nat.lt_of_lt_of_le q.lt (by rw [z]; exact hb)) (Nat.lt_irrefl _)
  · exact absurd (Nat.lt_of_lt_of_le (Heap.lt_size (I.pin p hp).1) (by rw [z]; exact hb)) (Nat.lt_irrefl _)
structure Turn (P : Program) (w : World) (K : PySem.W.Frag) (tg : Expr) (J : It) (fp : List Addr) (it : Addr) (tn : Nat → Heap → Prop) : Prop where
  mem : it ∈ fp
  obj : ∀ i h, tn i h → ∀ b ∈ fp, ∃ o, h.get? b = some o ∧ ∀ v, o.data ≠ .cell v
  keep : ∀ i h h', tn i h → (∀ b ∈ fp, ∀ o, h.get? b = some o → h'.get? b = some o) → tn i h'
  item : ∀ (X : Cx), X.prog = P → X.w = w → X.K = K → X.calm = true → ∀ (i : Nat) (pins : List (Addr × Obj)) (s : Shared) (σ : St) (H : Hp) (E : Value → Shared → Prop), Inv X pins σ H s → (∀ b ∈ fp, FpOk X pins H b) → tn i s.heap → J.go i H →
    wpAny (model P w) X.A (pyNext (.ref it)) (fun r s1 => ∃ u, r = some u ∧
      wpAny (model P w) X.A (letOwnedTupleGo tg (.ref it) u) (fun _ s2 => ∃ x H', Inv X pins σ H' s2 ∧ RelV x u ∧ J.yld i H x H' ∧ tn (i + 1) s2.heap ∧ ∀ b ∈ fp, H' b = none) E s1) E s
  done : ∀ (X : Cx), X.prog = P → X.w = w → X.K = K → X.calm = true → ∀ (i : Nat) (pins : List (Addr × Obj)) (s : Shared) (σ : St) (H : Hp) (E : Value → Shared → Prop), Inv X pins σ H s → (∀ b ∈ fp, FpOk X pins H b) → tn i s.heap → J.stop i H →
    wpAny (model P w) X.A (pyNext (.ref it)) (fun r s1 => r = none ∧ Inv X pins σ H s1) E s
  self : ∀ (A : Around) (i : Nat) (s : Shared) (Q : Value → Shared → Prop) (E : Value → Shared → Prop), tn i s.heap → Q (.ref it) s → wpAny (model P w) A (pyIter (.ref it)) Q E s
abbrev TI := St → Hp → (It → Hp → Prop) → Prop
/-- an iterator has come -/
def PIE (X : Cx) (pins : List (Addr × Obj)) (σ : St) (tg : Expr) (R : It → Hp → Prop) (itv : Value) (s2 : Shared) : Prop :=
  ∃ (it : Addr) (fp : List Addr) (tn : Nat → Heap → Prop) (J : It) (H' : Hp), itv = .ref it ∧ Inv X pins σ H' s2 ∧ Turn X.prog X.w X.K tg J fp it tn ∧ tn 0 s2.heap ∧ (∀ b ∈ fp, FpOk X pins H' b) ∧ R J H'
def PI (X : Cx) (tg iter : Expr) (wi : TI) : Prop :=
  ∀ (pins : List (Addr × Obj)) (s : Shared) (σ : St) (H : Hp) (R : It → Hp → Prop), Inv X pins σ H s → wi σ H R →
    wpAny (model X.prog X.w) X.A (eval iter X.env) (fun v s1 => wpAny (model X.prog X.w) X.A (pyIter v) (PIE X pins σ tg R) X.xe s1) X.xe s

/-- the step ahead of the store is nothing for an iterator that keeps no tuple -/
theorem go_of {M : Model} {A : Around} {E : Value → Shared → Prop} {s : Shared} {tg : Expr} {it : Addr} {u : Value} {o : Obj} {n : String} {vs : Array Value} {Q : Unit → Shared → Prop} (ho : s.heap.get? it = some o) (hc : o.cls = .type n) (hd : o.data = .fields vs)
    (hn : ["enumerate", "zip", "dict_itemiterator", "dict_reverseitemiterator", "odict_iterator", "itertools.zip_longest", "itertools.pairwise"].contains n = false) (hQ : Q () s) : wpAny M A (letOwnedTupleGo tg (.ref it) u) Q E s := by
  unfold letOwnedTupleGo
  cases tg <;> first
    | exact wpAny_pure hQ
    | (cases u <;> first
        | exact wpAny_pure hQ
        | (refine wpAny_bind (wpAny_load ho ?_)
           rw [hc, hd]
           show wpAny M A (if (["enumerate", "zip", "dict_itemiterator", "dict_reverseitemiterator", "odict_iterator", "itertools.zip_longest", "itertools.pairwise"].contains n && vs[0]? == some (rawInt _)) = true then _ else _) Q E s
           rw [if_neg (by intro h; rw [hn, Bool.false_and] at h; cases h)]
           exact wpAny_pure hQ))

/-- the list at a, as it stands at each turn (a loop may append to it) -/
def Itl (K : PySem.W.Frag) (a : Addr) : It :=
  ⟨fun i H => ∃ xs x, SqL K H a xs ∧ xs[i]? = some x, fun i H x H' => H' = H ∧ ∀ xs, SqL K H a xs → xs[i]? = some x, fun i H => ∃ xs, SqL K H a xs ∧ xs.length ≤ i⟩
/-- lo, lo + 1, .. (n of them) -/
def Itr (lo : Int) (n : Nat) : It := ⟨fun i _ => i < n, fun i H x H' => H' = H ∧ x = .int (lo + i), fun i _ => n ≤ i⟩
theorem turn_list {P : Program} {w : World} {K : PySem.W.Frag} {tg : Expr} (a it : Addr) : Turn P w K tg (Itl K a) [it] it (fun i h => h.IsListIter it a i) where
  mem := by simp
  obj := fun i h st b hb => by
    have e : b = it := by simpa using hb
    subst e
    obtain ⟨o, e, c, d⟩ := st
    exact ⟨o, e, fun v z => by rw [d] at z; cases z⟩
  keep := fun i h h' st k => st.at fun o e => k it (by simp) o e
  item := by
    intro X hP hw hK hc i pins s σ H E I hf st hg
    subst hP hw hK
    obtain ⟨xs, x, hq, hx⟩ := hg
    obtain ⟨its, rv, p, hz⟩ := I.list hq
    obtain ⟨u, hu, ru⟩ := rv.get hx
    obtain ⟨f0, f1, f2, f3, f4, f5⟩ := hf it (by simp)
    refine wpAny_pyNext_list_item st p.isList (x := u) (by simpa using hu) fun h' st' sb => ?_
    have I1 : Inv X pins σ H { s with heap := h' } := I.turned (t' := s.toks) (fun b o hb e => (sb.2 b hb).trans e) f0 f1 f3 f4 f5
    obtain ⟨o, e, c, d⟩ := id st'
    exact ⟨u, rfl, go_of (s := { s with heap := h' }) e c d (by decide) ⟨x, H, I1, ru, ⟨rfl, fun ys hy => by rw [I.list_inj hy hq]; exact hx⟩, st', fun b hb => (hf b hb).1⟩⟩
  done := by
    intro X hP hw hK hc i pins s σ H E I hf st hg
    subst hP hw hK
    obtain ⟨xs, hq, hx⟩ := hg
    obtain ⟨its, rv, p, hz⟩ := I.list hq
    obtain ⟨f0, f1, f2, f3, f4, f5⟩ := hf it (by simp)
    have hl := rv.length
    exact wpAny_pyNext_list_end (I.ok.hd hc) st p.isList (by simp; omega) fun h' eb => ⟨rfl, I.turned (t' := s.toks) (fun b o hb e => eb b o hb e) f0 f1 f3 f4 f5⟩
  self := fun _ _ _ _ _ st h => wpAny_pyIter_listiter st h
theorem turn_range {P : Program} {w : World} {K : PySem.W.Frag} {tg : Expr} (it : Addr) (lo : Int) (n : Nat) : Turn P w K tg (Itr lo n) [it] it (fun i h => IsRangeIter h it (lo + (i : Nat) * 1) ((n : Int) - (i : Nat)) 1) where
  mem := by simp
  obj := fun i h st b hb => by
    have e : b = it := by simpa using hb
    subst e
    exact ⟨_, st, fun v z => by
      have z' : Data.fields _ = Data.cell v := z
      cases z'⟩
  keep := fun i h h' st k => k it (by simp) _ st
  item := by
    intro X hP hw hK hc i pins s σ H E I hf st hg
    subst hP hw hK
    obtain ⟨f0, f1, f2, f3, f4, f5⟩ := hf it (by simp)
    have W := Walks.range (prog := X.prog) (w := X.w) (I.ok.hd hc) it lo 1 n
    refine W.item i s _ _ hg st fun v h' tk hv st' kk => ?_
    obtain ⟨t, rfl⟩ := hv
    have I1 : Inv X pins σ H { s with heap := h', toks := tk } := I.turned (fun b o hb e => kk b o (by simpa using hb) e) f0 f1 f3 f4 f5
    refine ⟨_, rfl, go_of (s := { s with heap := h', toks := tk }) (n := "range_iterator") st' rfl rfl (by decide) ⟨.int (lo + i), H, I1, ⟨t, ?_⟩, ⟨rfl, rfl⟩, st', fun b hb => (hf b hb).1⟩⟩
    rw [Int.mul_one]
  done := by
    intro X hP hw hK hc i pins s σ H E I hf st hg
    subst hP hw hK
    obtain ⟨f0, f1, f2, f3, f4, f5⟩ := hf it (by simp)
    exact wpAny_pyNext_range_end (I.ok.hd hc) st (by have : n ≤ i := hg; omega) fun h' eb => ⟨rfl, I.turned (t' := s.toks) (fun b o hb e => eb b o hb e) f0 f1 f3 f4 f5⟩
  self := fun _ _ _ _ _ st h => wpAny_pyIter_rangeiter st h
end L2

namespace L2
open PySem PySem.Spec PyProof.Rows
section
variable {X : Cx} {tg : Expr}
def iList (K : PySem.W.Frag) (tl : TE) : TI := fun σ H R => tl σ H fun x H1 => ∃ a, x = .ref a ∧ (∃ xs, SqL K H1 a xs) ∧ R (Itl K a) H1
theorem pi_list {l : Expr} {tl : TE} (hl : PE X l tl) : PI X tg l (iList X.K tl) := by
  intro pins s σ H R I h
  refine thn (hl pins s σ H _ I h) fun v s1 ⟨x, H1, I1, r1, q1⟩ => ?_
  obtain ⟨a, e, ⟨xs, hq⟩, q⟩ := q1
  subst e
  cases r1
  obtain ⟨its, rv, p, hz⟩ := I1.list hq
  refine wpAny_pyIter_list p.isList ?_
  refine ⟨s1.heap.objs.size, [s1.heap.objs.size], _, _, H1, rfl, I1.kept (t' := s1.toks) fun b o e => Heap.get?_push_of_some _ e, turn_list a _, ⟨_, Heap.get?_push_size _ rfl, rfl, rfl⟩, fun b hb => ?_, q⟩
  have e : b = s1.heap.objs.size := by simpa using hb
  subst e
  exact I1.fpOk (Nat.le_refl _) (I1.hok.fresh (Nat.le_refl _))
/-- a range object just made, walked -/
theorem range_it {pins : List (Addr × Obj)} {σ : St} {H : Hp} {s : Shared} {R : It → Hp → Prop} {E : Value → Shared → Prop} {lo hi : Int} {t u v : Tok} {tk : Nat} (I : Inv X pins σ H s) (h1 : -(2 ^ 62) ≤ lo) (h2 : lo < 2 ^ 62) (h3 : -(2 ^ 62) ≤ hi) (h4 : hi < 2 ^ 62)
    (q : R (Itr lo (hi - lo).toNat) H) : wpAny (model X.prog X.w) X.A (pyIter (.ref s.heap.objs.size)) (PIE X pins σ tg R) E { s with heap := s.heap.push { cls := .type "range", data := .fields #[.int lo t, .int hi u, .int 1 v] }, toks := tk } := by
  refine wpAny_pyIter_range (IsRange.new ..) (small_one h1 h2 h3 h4) ?_
  have I1 : Inv X pins σ H { s with heap := s.heap.push { cls := .type "range", data := .fields #[.int lo t, .int hi u, .int 1 v] }, toks := tk } := I.kept fun b o e => Heap.get?_push_of_some _ e
  refine ⟨(s.heap.push { cls := .type "range", data := .fields #[.int lo t, .int hi u, .int 1 v] }).objs.size, [(s.heap.push { cls := .type "range", data := .fields #[.int lo t, .int hi u, .int 1 v] }).objs.size], _, _, H, rfl,
    I1.kept (t' := tk) fun b o e => Heap.get?_push_of_some _ e, turn_range _ lo (hi - lo).toNat, ?_, fun b hb => ?_, q⟩
  · have e1 : lo + ((0 : Nat) : Int) * 1 = lo := by simp
    have e2 : (((hi - lo).toNat : Nat) : Int) - ((0 : Nat) : Int) = Builtin.Range.rangeSize lo hi 1 := by rw [rangeSize_one]; split <;> omega
    show IsRangeIter _ _ (lo + ((0 : Nat) : Int) * 1) ((((hi - lo).toNat : Nat) : Int) - ((0 : Nat) : Int)) 1
    rw [e1, e2]
    exact Heap.get?_push_size _ rfl
  · have e : b = (s.heap.push { cls := .type "range", data := .fields #[.int lo t, .int hi u, .int 1 v] }).objs.size := by simpa using hb
    subst e
    exact I1.fpOk (Nat.le_refl _) (I1.hok.fresh (Nat.le_refl _))
def iRng1 (ta : TA) : TI := fun σ H R => ta σ H fun vs H1 => ∃ j : Int, vs = [.int j] ∧ -(2 ^ 62) ≤ j ∧ j < 2 ^ 62 ∧ R (Itr 0 j.toNat) H1
theorem pi_range1 {a : Expr} {ta : TA} {p pos : Pos} (hg : Gl X "range") (hm : X.mg "range" = none) (ha : PA X [a] ta) (hs : starEach [a] X.env = [(false, eval a X.env)] := by rfl) : PI X tg (.Call (.Name "range" p) [a] [] pos) (iRng1 ta) := by
  intro pins s σ H R I h
  refine Call_ (ld_blt I hg hm boot_range (PyProof.Rows.callWith_type1 (thn (ha pos pins s σ H _ I h) fun us s1 ⟨vs, H1, I1, r1, q1⟩ => ?_) hs rfl))
  obtain ⟨j, e, q1, q2, q⟩ := q1
  subst e
  cases r1 with
  | cons r rr =>
    cases rr
    obtain ⟨t, rfl⟩ := r
    exact call_range_1 (range_it I1 (by omega) (by omega) q1 q2 (by simpa using q))
/-! ### for -/
/-- W: the invariant by the turn and a measure; N: what the body is to reach -/
def tFor (wi : TI) (g : TG) (tb : TS) : TS := fun D σ H => wi σ H fun J H1 => ∃ W : Nat → Nat → St → Hp → Prop, (∃ m, W 0 m σ H1) ∧ ∀ i m σ H, W i m σ H →
  (J.stop i H ∧ D.nx σ H) ∨ (J.go i H ∧ ∃ N : St → Hp → Prop, (∀ σ' H', N σ' H' → ∃ m', m' < m ∧ W (i + 1) m' σ' H') ∧ ∀ x H', J.yld i H x H' → g x σ H' fun σ2 H2 => tb { D with nx := N, ct := N, bk := D.nx } σ2 H2)
/-- the records at fp as they stand -/
def pinsAt (fp : List Addr) (h : Heap) : List (Addr × Obj) := fp.filterMap fun b => (h.get? b).map fun o => (b, o)
theorem mem_pinsAt {fp : List Addr} {h : Heap} {b : Addr} {o : Obj} (hb : b ∈ fp) (e : h.get? b = some o) : (b, o) ∈ pinsAt fp h := List.mem_filterMap.mpr ⟨b, hb, by rw [e]; rfl⟩
theorem of_pinsAt {fp : List Addr} {h : Heap} {p : Addr × Obj} (hp : p ∈ pinsAt fp h) : p.1 ∈ fp ∧ h.get? p.1 = some p.2 := by
  obtain ⟨b, hb, e⟩ := List.mem_filterMap.mp hp
  cases q : h.get? b with
  | none => rw [q] at e; cases e
  | some o =>
    rw [q] at e
    have e' : (b, o) = p := Option.some.inj e
    subst e'
    exact ⟨hb, q⟩
theorem Inv.pinned {pins : List (Addr × Obj)} {σ : St} {H : Hp} {s : Shared} {fp : List Addr} (I : Inv X pins σ H s) (hf : ∀ b ∈ fp, FpOk X pins H b) (ho : ∀ b ∈ fp, ∃ o, s.heap.get? b = some o ∧ ∀ v, o.data ≠ .cell v) : Inv X (pins ++ pinsAt fp s.heap) σ H s :=
  I.pins_of fun p hp => (List.mem_append.mp hp).elim (fun z => I.pin p (List.mem_append_right _ z)) fun z => by
    obtain ⟨hb, e⟩ := of_pinsAt z
    obtain ⟨f0, f1, f2, _⟩ := hf p.1 hb
    obtain ⟨o, e', d⟩ := ho p.1 hb
    rw [e] at e'; cases e'
    exact ⟨e, f0, f1, f2, d⟩
theorem Inv.unpinned {pins pl : List (Addr × Obj)} {σ : St} {H : Hp} {s : Shared} (I : Inv X (pins ++ pl) σ H s) : Inv X pins σ H s := I.pins_of fun p hp => I.pin p (List.mem_append_right _ (List.mem_append_left _ hp))
theorem ps_for {iter : Expr} {body : List Stmt} {wi : TI} {g : TG} {tb : TS} {pos : Pos} (hp : PassesOwn (model X.prog X.w) X.A X.env X.xe) (hc : X.calm = true) (hi : PI X tg iter wi) (hg : PG X tg g) (hb : PSs X body tb)
    (hs : ∀ x, foldedSetIterable iter X.env x = pure x := by intro _; rfl) : PS X (.For tg iter body [] pos) (tFor wi g tb) := by
  intro pins s σ H D I h
  refine wpAny_For (thn (hi pins s σ H _ I h) fun v s1 h1 => thn h1 fun itv s2 h2 => ?_) hs
  obtain ⟨it, fp, tn, J, H2, e, I2, T, st2, f2, W, ⟨m0, w0⟩, turn⟩ := h2
  subst e
  -- what stays true of the iterator's objects through the loop
  have stat : ∀ {H' : Hp}, (∀ b ∈ fp, H' b = none) → ∀ b ∈ fp, FpOk X pins H' b := fun hn b hb => ⟨hn b hb, (f2 b hb).2⟩
  refine codeAny_forLoop_any (fun n s' => ∃ i σ' H', Inv X pins σ' H' s' ∧ tn i s'.heap ∧ (∀ b ∈ fp, H' b = none) ∧ W i n σ' H') ?_ m0 ⟨0, σ, H2, I2, st2, fun b hb => (f2 b hb).1, w0⟩
  rintro n s3 ⟨i, σ3, H3, I3, st3, fr3, w3⟩
  rcases turn i n σ3 H3 w3 with ⟨stop, qn⟩ | ⟨go, N, hN, step⟩
  · refine wpAny_passesOwn hp (thn (T.done X rfl rfl rfl hc i pins s3 σ3 H3 X.xe I3 (stat fr3) st3 stop) fun r s4 ⟨hr, I4⟩ => ?_)
    subst hr
    exact wpAny_execs_nil ⟨σ3, H3, I4, qn⟩
  · refine wpAny_passesOwn hp (thn (T.item X rfl rfl rfl hc i pins s3 σ3 H3 X.xe I3 (stat fr3) st3 go) fun r s4 ⟨u, hr, h4⟩ => ?_)
    subst hr
    refine wpAny_passesOwn hp (thn h4 fun _ s5 ⟨x, H5, I5, r5, y5, st5, fr5⟩ => ?_)
    have I5' := I5.pinned (stat fr5) (T.obj _ _ st5)
    refine wpAny_passesOwn hp (thn (hg _ s5 σ3 H5 x u _ I5' r5 (step x H5 y5)) fun _ s6 ⟨σ6, H6, I6, q6⟩ => ?_)
    refine wpAny_passesOwn hp (thn (hb _ s6 σ6 H6 _ I6 q6) fun f s7 q7 => ?_)
    have again : ∀ {σ7 : St} {H7 : Hp}, Inv X (pins ++ pinsAt fp s5.heap) σ7 H7 s7 → N σ7 H7 → ∃ m, m < n ∧ ∃ i σ' H', Inv X pins σ' H' s7 ∧ tn i s7.heap ∧ (∀ b ∈ fp, H' b = none) ∧ W i m σ' H' := fun {σ7 H7} I7 n7 => by
      obtain ⟨m', hm, w7⟩ := hN σ7 H7 n7
      refine ⟨m', hm, i + 1, σ7, H7, I7.unpinned, T.keep _ _ _ st5 fun b hb o e => (I7.pin (b, o) (List.mem_append_right _ (List.mem_append_right _ (mem_pinsAt hb e)))).1, fun b hb => ?_, w7⟩
      obtain ⟨o, e, d⟩ := T.obj _ _ st5 b hb
      exact (I7.pin (b, o) (List.mem_append_right _ (List.mem_append_right _ (mem_pinsAt hb e)))).2.1
    cases f with
    | next => obtain ⟨σ7, H7, I7, n7⟩ := q7; exact again I7 n7
    | cont => obtain ⟨σ7, H7, I7, n7⟩ := q7; exact again I7 n7
    | brk => obtain ⟨σ7, H7, I7, q7⟩ := q7; exact ⟨σ7, H7, I7.unpinned, q7⟩
    | ret v => obtain ⟨x7, σ7, H7, I7, r7, q7⟩ := q7; exact ⟨x7, σ7, H7, I7.unpinned, r7, q7⟩
end

/-! ### the forms one uses -/
/-- over a list that the body leaves as it is -/
theorem for_list {K : PySem.W.Frag} {a : Addr} {xs : List V} {g : TG} {tb : TS} {D : Ends} {σ : St} {H : Hp} (Pv : Nat → St → Hp → Prop) (h0 : Pv 0 σ H) (hl : ∀ i σ H, i ≤ xs.length → Pv i σ H → SqL K H a xs)
    (hs : ∀ i x σ H, xs[i]? = some x → Pv i σ H → g x σ H fun σ2 H2 => tb { D with nx := Pv (i + 1), ct := Pv (i + 1), bk := D.nx } σ2 H2) (hd : ∀ σ H, Pv xs.length σ H → D.nx σ H) :
    ∃ W : Nat → Nat → St → Hp → Prop, (∃ m, W 0 m σ H) ∧ ∀ i m σ H, W i m σ H →
      ((Itl K a).stop i H ∧ D.nx σ H) ∨ ((Itl K a).go i H ∧ ∃ N : St → Hp → Prop, (∀ σ' H', N σ' H' → ∃ m', m' < m ∧ W (i + 1) m' σ' H') ∧ ∀ x H', (Itl K a).yld i H x H' → g x σ H' fun σ2 H2 => tb { D with nx := N, ct := N, bk := D.nx } σ2 H2) := by
  refine ⟨fun i m σ H => m = xs.length - i ∧ i ≤ xs.length ∧ Pv i σ H, ⟨xs.length, by simp, Nat.zero_le _, h0⟩, ?_⟩
  rintro i m σ H ⟨rfl, hi, p⟩
  have q := hl i σ H hi p
  by_cases hlt : i < xs.length
  · refine .inr ⟨⟨xs, xs[i], q, by simp [hlt]⟩, Pv (i + 1), fun σ' H' p' => ⟨xs.length - (i + 1), by omega, rfl, hlt, p'⟩, fun x H' y => ?_⟩
    obtain ⟨e, y⟩ := y
    subst e
    exact hs i x σ _ (y xs q) p
  · have e : i = xs.length := by omega
    subst e
    exact .inl ⟨⟨xs, q, Nat.le_refl _⟩, hd σ H p⟩
theorem for_range {lo : Int} {n : Nat} {g : TG} {tb : TS} {D : Ends} {σ : St} {H : Hp} (Pv : Nat → St → Hp → Prop) (h0 : Pv 0 σ H)
    (hs : ∀ i σ H, i < n → Pv i σ H → g (.int (lo + i)) σ H fun σ2 H2 => tb { D with nx := Pv (i + 1), ct := Pv (i + 1), bk := D.nx } σ2 H2) (hd : ∀ σ H, Pv n σ H → D.nx σ H) :
    ∃ W : Nat → Nat → St → Hp → Prop, (∃ m, W 0 m σ H) ∧ ∀ i m σ H, W i m σ H →
      ((Itr lo n).stop i H ∧ D.nx σ H) ∨ ((Itr lo n).go i H ∧ ∃ N : St → Hp → Prop, (∀ σ' H', N σ' H' → ∃ m', m' < m ∧ W (i + 1) m' σ' H') ∧ ∀ x H', (Itr lo n).yld i H x H' → g x σ H' fun σ2 H2 => tb { D with nx := N, ct := N, bk := D.nx } σ2 H2) := by
  refine ⟨fun i m σ H => m = n - i ∧ i ≤ n ∧ Pv i σ H, ⟨n, by simp, Nat.zero_le _, h0⟩, ?_⟩
  rintro i m σ H ⟨rfl, hi, p⟩
  by_cases hlt : i < n
  · refine .inr ⟨hlt, Pv (i + 1), fun σ' H' p' => ⟨n - (i + 1), by omega, rfl, hlt, p'⟩, fun x H' y => ?_⟩
    obtain ⟨e, y⟩ := y
    subst e y
    exact hs i σ _ hlt p
  · have e : i = n := by omega
    subst e
    exact .inl ⟨Nat.le_refl _, hd σ H p⟩
end L2

namespace L2
open PySem PySem.Spec PyProof.Rows

abbrev R2 := V → V → Hp → VK → Prop
/-- a two-place operation on values: f is binaryOp op, inplaceOp op or compareOp op -/
def OpR (X : Cx) (f : Value → Value → Sem Value) (r : R2) : Prop :=
  ∀ (pins : List (Addr × Obj)) (s : Shared) (σ : St) (H : Hp) (x y : V) (v u : Value) (Q : VK), Inv X pins σ H s → RelV x v → RelV y u → r x y H Q →
    wpAny (model X.prog X.w) X.A (f v u) (EP X pins σ Q) X.xe s
/-- a one-place operation -/
def UnR (X : Cx) (f : Value → Sem Value) (r : V → Hp → VK → Prop) : Prop :=
  ∀ (pins : List (Addr × Obj)) (s : Shared) (σ : St) (H : Hp) (x : V) (v : Value) (Q : VK), Inv X pins σ H s → RelV x v → r x H Q →
    wpAny (model X.prog X.w) X.A (f v) (EP X pins σ Q) X.xe s
/-- a call of a value that is known (a builtin, a type) with values -/
def CallR (X : Cx) (f : Value) (r : List V → Hp → VK → Prop) : Prop :=
  ∀ (pins : List (Addr × Obj)) (s : Shared) (σ : St) (H : Hp) (xs : List V) (us : List Value) (Q : VK), Inv X pins σ H s → Vals xs us → r xs H Q →
    wpAny (model X.prog X.w) X.A (call f us) (EP X pins σ Q) X.xe s
/-- a value's truth -/
def TruR (X : Cx) (r : V → Hp → (Bool → Hp → Prop) → Prop) : Prop :=
  ∀ (pins : List (Addr × Obj)) (s : Shared) (σ : St) (H : Hp) (x : V) (v : Value) (Q : Bool → Hp → Prop), Inv X pins σ H s → RelV x v → r x H Q →
    wpAny (model X.prog X.w) X.A (truthy v) (TP X pins σ Q) X.xe s

def tOp (r : R2) (ta tb : TE) : TE := fun σ H Q => ta σ H fun x H1 => tb σ H1 fun y H2 => r x y H2 Q
def tUn (r : V → Hp → VK → Prop) (ta : TE) : TE := fun σ H Q => ta σ H fun x H1 => r x H1 Q
/-- ints in, under C, and a value out -/
def rI (C : Int → Int → Prop) (g : Int → Int → V) : R2 := fun x y H Q => ∃ i j, x = .int i ∧ y = .int j ∧ C i j ∧ Q (g i j) H
def rI0 (g : Int → Int → V) : R2 := fun x y H Q => ∃ i j, x = .int i ∧ y = .int j ∧ Q (g i j) H
def rU (g : Int → V) : V → Hp → VK → Prop := fun x H Q => ∃ i, x = .int i ∧ Q (g i) H

section
variable {X : Cx} {a b c : Expr} {ta tb tc : TE} {pos : Pos}

theorem binT (ha : PE X a ta) (hb : PE X b tb) {pins : List (Addr × Obj)} {s : Shared} {σ : St} {H : Hp} {R : V → V → Hp → Prop} (I : Inv X pins σ H s)
    (h : ta σ H fun x H1 => tb σ H1 fun y H2 => R x y H2) {Q : Value → Shared → Prop} {f : Value → Value → Sem Value}
    (hf : ∀ v u s2 x y H2, Inv X pins σ H2 s2 → RelV x v → RelV y u → R x y H2 → wpAny (model X.prog X.w) X.A (f v u) Q X.xe s2) :
    wpAny (model X.prog X.w) X.A (eval a X.env) (fun v s₁ => wpAny (model X.prog X.w) X.A (eval b X.env) (fun u s₂ => wpAny (model X.prog X.w) X.A (f v u) Q X.xe s₂) X.xe s₁) X.xe s := by
  refine thn (ha pins s σ H _ I h) fun v s1 ⟨x, H1, I1, r1, q1⟩ => ?_
  refine thn (hb pins s1 σ H1 _ I1 q1) fun u s2 ⟨y, H2, I2, r2, q2⟩ => ?_
  exact hf v u s2 x y H2 I2 r1 r2 q2

theorem pe_op {op : Operator} {r : R2} (ho : OpR X (binaryOp op) r) (ha : PE X a ta) (hb : PE X b tb) : PE X (.BinOp a op b pos) (tOp r ta tb) := by
  intro pins s σ H Q I h
  exact wpAny_BinOp (binT ha hb I h fun v u s2 x y H2 I2 rx ry q => ho pins s2 σ H2 x y v u Q I2 rx ry q)
theorem pe_un {op : UnaryOp} {r : V → Hp → VK → Prop} (ho : UnR X (unaryOp op) r) (ha : PE X a ta) : PE X (.UnaryOp op a pos) (tUn r ta) := by
  intro pins s σ H Q I h
  exact UnaryOp_ (thn (ha pins s σ H _ I h) fun v s1 ⟨x, H1, I1, r1, q1⟩ => ho pins s1 σ H1 x v Q I1 r1 q1)
/-! ### ints -/
theorem opI {f : Value → Value → Sem Value} {C : Int → Int → Prop} {g : Int → Int → Int}
    (rule : ∀ (i j : Int) (t u : Tok) (s : Shared) (Q : Value → Shared → Prop) (E : Value → Shared → Prop), C i j → Q (.int (g i j) s.toks) { s with toks := s.toks + 1 } → wpAny (model X.prog X.w) X.A (f (.int i t) (.int j u)) Q E s) :
    OpR X f (rI C fun i j => .int (g i j)) := by
  intro pins s σ H x y v u Q I rx ry h
  obtain ⟨i, j, rfl, rfl, hc, q⟩ := h
  obtain ⟨t, rfl⟩ := rx
  obtain ⟨t', rfl⟩ := ry
  exact rule i j t t' s _ _ hc ⟨.int (g i j), H, I.tok _, ⟨_, rfl⟩, q⟩
theorem opI0 {f : Value → Value → Sem Value} {g : Int → Int → Int}
    (rule : ∀ (i j : Int) (t u : Tok) (s : Shared) (Q : Value → Shared → Prop) (E : Value → Shared → Prop), Q (.int (g i j) s.toks) { s with toks := s.toks + 1 } → wpAny (model X.prog X.w) X.A (f (.int i t) (.int j u)) Q E s) :
    OpR X f (rI0 fun i j => .int (g i j)) := by
  intro pins s σ H x y v u Q I rx ry h
  obtain ⟨i, j, rfl, rfl, q⟩ := h
  obtain ⟨t, rfl⟩ := rx
  obtain ⟨t', rfl⟩ := ry
  exact rule i j t t' s _ _ ⟨.int (g i j), H, I.tok _, ⟨_, rfl⟩, q⟩
theorem opB0 {f : Value → Value → Sem Value} {g : Int → Int → Bool}
    (rule : ∀ (i j : Int) (t u : Tok) (s : Shared) (Q : Value → Shared → Prop) (E : Value → Shared → Prop), Q (.bool (g i j)) s → wpAny (model X.prog X.w) X.A (f (.int i t) (.int j u)) Q E s) :
    OpR X f (rI0 fun i j => .bl (g i j)) := by
  intro pins s σ H x y v u Q I rx ry h
  obtain ⟨i, j, rfl, rfl, q⟩ := h
  obtain ⟨t, rfl⟩ := rx
  obtain ⟨t', rfl⟩ := ry
  exact rule i j t t' s _ _ ⟨.bl (g i j), H, I, rfl, q⟩

def CDiv (i j : Int) : Prop := 0 < j ∧ j < 1073741824
def CMul (i j : Int) : Prop := (-(2 ^ 64) < i ∧ i < 2 ^ 64) ∨ (-(2 ^ 64) < j ∧ j < 2 ^ 64)
theorem CMul.ok {i j : Int} (h : CMul i j) : IntMulOk i j := by
  rcases h with ⟨h1, h2⟩ | ⟨h1, h2⟩
  · exact .of_left (intBits_le_64 h1 h2)
  · exact .of_right (intBits_le_64 h1 h2)
theorem op_add : OpR X (binaryOp .Add) (rI0 fun i j => .int (i + j)) := opI0 fun _ _ _ _ _ _ _ q => add_int q
theorem op_sub : OpR X (binaryOp .Sub) (rI0 fun i j => .int (i - j)) := opI0 fun _ _ _ _ _ _ _ q => sub_int q
theorem op_mul : OpR X (binaryOp .Mult) (rI CMul fun i j => .int (i * j)) := opI fun _ _ _ _ _ _ _ hc q => mul_int q hc.ok
/-- // by a positive divisor -/
theorem op_fdiv : OpR X (binaryOp .FloorDiv) (rI CDiv fun i j => .int (i / j)) := opI fun i j _ _ _ _ _ hc q => by
  have h1 : (0 : Int) < j := hc.1
  have h2 : j < 1073741824 := hc.2
  exact floordiv_int (by omega) (by rw [Int.fdiv_eq_ediv_of_nonneg i (by omega)]; exact q) (.inl (PyProof.noPylong_small (by omega)))
/-- % by a positive divisor of any size -/
theorem op_mod : OpR X (binaryOp .Mod) (rI (fun _ j => 0 < j) fun i j => .int (i % j)) := opI fun i j _ _ _ _ _ hc q => by
  have h1 : (0 : Int) < j := hc
  exact mod_int' (by omega) (by rw [Int.fmod_eq_emod_of_nonneg i (by omega)]; exact q)
theorem unI {f : Value → Sem Value} {g : Int → Int}
    (rule : ∀ (i : Int) (t : Tok) (s : Shared) (Q : Value → Shared → Prop) (E : Value → Shared → Prop), Q (.int (g i) s.toks) { s with toks := s.toks + 1 } → wpAny (model X.prog X.w) X.A (f (.int i t)) Q E s) :
    UnR X f (rU fun i => .int (g i)) := by
  intro pins s σ H x v Q I rx h
  obtain ⟨i, rfl, q⟩ := h
  obtain ⟨t, rfl⟩ := rx
  exact rule i t s _ _ ⟨.int (g i), H, I.tok _, ⟨_, rfl⟩, q⟩
theorem un_neg : UnR X (unaryOp .USub) (rU fun i => .int (-i)) := unI fun _ _ _ _ _ q => neg_int q
/-! ### bools among ints: n += (a < b) -/
end

/-! ### comparisons -/
/-- the scalars that == tells apart as data does -/
def scal : V → V → Bool
  | .non, .non => true | .non, .int _ => true | .int _, .non => true | .non, .bl _ => true | .bl _, .non => true | .non, .str _ => true | .str _, .non => true
  | .int _, .int _ => true | .bl _, .bl _ => true | .str _, .str _ => true | .byt _, .byt _ => true
  | .int _, .str _ => true | .str _, .int _ => true | .bl _, .str _ => true | .str _, .bl _ => true
  | _, _ => false
def rEq : R2 := fun x y H Q => scal x y = true ∧ Q (.bl (decide (x = y))) H
def rNe : R2 := fun x y H Q => scal x y = true ∧ Q (.bl (!decide (x = y))) H

theorem dec_int {i j : Int} : decide (V.int i = V.int j) = (i == j) := by
  rw [Bool.eq_iff_iff]
  simp
theorem dec_bl {i j : Bool} : decide (V.bl i = V.bl j) = (i == j) := by
  rw [Bool.eq_iff_iff]
  simp
theorem dec_str {i j : Str} : decide (V.str i = V.str j) = (i == j) := by
  rw [Bool.eq_iff_iff]
  simp
theorem dec_byt {i j : Array UInt8} : decide (V.byt i = V.byt j) = (i.toList == j.toList) := by
  rw [Bool.eq_iff_iff]
  cases i
  cases j
  simp

section
variable {X : Cx} {a b c : Expr} {ta tb tc : TE} {pos : Pos}
theorem fin_bl {pins : List (Addr × Obj)} {σ : St} {H : Hp} {s : Shared} {Q : VK} {k k' : Bool} (I : Inv X pins σ H s) (q : Q (.bl k) H) (e : k = k') : EP X pins σ Q (.bool k') s := by
  subst e
  exact ⟨.bl k, H, I, rfl, q⟩
theorem op_eq : OpR X (compareOp .Eq) rEq := by
  intro pins s σ H x y v u Q I rx ry h
  obtain ⟨hs, q⟩ := h
  cases x with
  | non =>
    cases rx
    cases y with
    | non => cases ry; exact PySem.EqNone.eq_none_none (fin_bl I q (by simp))
    | bl j => cases ry; exact PySem.EqNone.eq_none_bool (fin_bl I q (by simp))
    | int j => obtain ⟨t', rfl⟩ := ry; exact PySem.EqNone.eq_none_int (fin_bl I q (by simp))
    | str j => obtain ⟨t', rfl⟩ := ry; exact PySem.EqNone.eq_none_str (fin_bl I q (by simp))
    | _ => exact absurd (show false = true from hs) Bool.false_ne_true
  | bl i =>
    cases rx
    cases y with
    | non => cases ry; exact PySem.EqNone.eq_bool_none (fin_bl I q (by simp))
    | bl j => cases ry; exact eq_bool (fin_bl I q dec_bl)
    | str j => obtain ⟨t', rfl⟩ := ry; exact PySem.EqMixed.eq_bool_str (fin_bl I q (by simp))
    | _ => exact absurd (show false = true from hs) Bool.false_ne_true
  | int i =>
    obtain ⟨t, rfl⟩ := rx
    cases y with
    | non => cases ry; exact PySem.EqNone.eq_int_none (fin_bl I q (by simp))
    | int j => obtain ⟨t', rfl⟩ := ry; exact eq_int (fin_bl I q dec_int)
    | str j => obtain ⟨t', rfl⟩ := ry; exact PySem.EqMixed.eq_int_str (fin_bl I q (by simp))
    | _ => exact absurd (show false = true from hs) Bool.false_ne_true
  | str i =>
    obtain ⟨t, rfl⟩ := rx
    cases y with
    | non => cases ry; exact PySem.EqNone.eq_str_none (fin_bl I q (by simp))
    | bl j => cases ry; exact PySem.EqMixed.eq_str_bool (fin_bl I q (by simp))
    | int j => obtain ⟨t', rfl⟩ := ry; exact PySem.EqMixed.eq_str_int (fin_bl I q (by simp))
    | str j => obtain ⟨t', rfl⟩ := ry; exact eq_str (fin_bl I q dec_str)
    | _ => exact absurd (show false = true from hs) Bool.false_ne_true
  | byt i =>
    obtain ⟨t, rfl⟩ := rx
    cases y with
    | byt j => obtain ⟨t', rfl⟩ := ry; exact PySem.W.eq_bytes (fin_bl I q dec_byt)
    | _ => exact absurd (show false = true from hs) Bool.false_ne_true
  | _ => cases y <;> exact absurd (show false = true from hs) Bool.false_ne_true
theorem op_ne : OpR X (compareOp .NotEq) rNe := by
  intro pins s σ H x y v u Q I rx ry h
  obtain ⟨hs, q⟩ := h
  cases x with
  | non =>
    cases rx
    cases y with
    | non => cases ry; exact PySem.EqNone.ne_none_none (fin_bl I q (by simp))
    | bl j => cases ry; exact PySem.EqNone.ne_none_bool (fin_bl I q (by simp))
    | int j => obtain ⟨t', rfl⟩ := ry; exact PySem.EqNone.ne_none_int (fin_bl I q (by simp))
    | str j => obtain ⟨t', rfl⟩ := ry; exact PySem.EqNone.ne_none_str (fin_bl I q (by simp))
    | _ => exact absurd (show false = true from hs) Bool.false_ne_true
  | bl i =>
    cases rx
    cases y with
    | non => cases ry; exact PySem.EqNone.ne_bool_none (fin_bl I q (by simp))
    | bl j => cases ry; exact ne_bool (fin_bl I q (congrArg not dec_bl))
    | str j => obtain ⟨t', rfl⟩ := ry; exact PySem.EqMixed.ne_bool_str (fin_bl I q (by simp))
    | _ => exact absurd (show false = true from hs) Bool.false_ne_true
  | int i =>
    obtain ⟨t, rfl⟩ := rx
    cases y with
    | non => cases ry; exact PySem.EqNone.ne_int_none (fin_bl I q (by simp))
    | int j => obtain ⟨t', rfl⟩ := ry; exact ne_int (fin_bl I q (congrArg not dec_int))
    | str j => obtain ⟨t', rfl⟩ := ry; exact PySem.EqMixed.ne_int_str (fin_bl I q (by simp))
    | _ => exact absurd (show false = true from hs) Bool.false_ne_true
  | str i =>
    obtain ⟨t, rfl⟩ := rx
    cases y with
    | non => cases ry; exact PySem.EqNone.ne_str_none (fin_bl I q (by simp))
    | bl j => cases ry; exact PySem.EqMixed.ne_str_bool (fin_bl I q (by simp))
    | int j => obtain ⟨t', rfl⟩ := ry; exact PySem.EqMixed.ne_str_int (fin_bl I q (by simp))
    | str j => obtain ⟨t', rfl⟩ := ry; exact ne_str (fin_bl I q (congrArg not dec_str))
    | _ => exact absurd (show false = true from hs) Bool.false_ne_true
  | byt i =>
    obtain ⟨t, rfl⟩ := rx
    cases y with
    | byt j => obtain ⟨t', rfl⟩ := ry; exact PySem.W.ne_bytes (fin_bl I q (congrArg not dec_byt))
    | _ => exact absurd (show false = true from hs) Bool.false_ne_true
  | _ => cases y <;> exact absurd (show false = true from hs) Bool.false_ne_true

theorem op_lt : OpR X (compareOp .Lt) (rI0 fun i j => .bl (decide (i < j))) := opB0 fun _ _ _ _ _ _ _ q => lt_int q
theorem op_le : OpR X (compareOp .LtE) (rI0 fun i j => .bl (decide (i ≤ j))) := opB0 fun _ _ _ _ _ _ _ q => le_int q
theorem op_gt : OpR X (compareOp .Gt) (rI0 fun i j => .bl (decide (j < i))) := opB0 fun _ _ _ _ _ _ _ q => gt_int q
theorem op_ge : OpR X (compareOp .GtE) (rI0 fun i j => .bl (decide (j ≤ i))) := opB0 fun _ _ _ _ _ _ _ q => ge_int q
/-- two rules for one operation: by cases -/
theorem OpR.or {f : Value → Value → Sem Value} {r r' : R2} (h : OpR X f r) (h' : OpR X f r') : OpR X f (fun x y H Q => r x y H Q ∨ r' x y H Q) := by
  intro pins s σ H x y v u Q I rx ry q
  rcases q with q | q
  · exact h pins s σ H x y v u Q I rx ry q
  · exact h' pins s σ H x y v u Q I rx ry q

theorem nomark (b : Expr) {op : CmpOp} (h : op ≠ .In := by decide) (h2 : op ≠ .NotIn := by decide) : behindInMarks op b = false := by
  have e1 : (op == CmpOp.In) = false := by cases op <;> first | rfl | exact absurd rfl h
  have e2 : (op == CmpOp.NotIn) = false := by cases op <;> first | rfl | exact absurd rfl h2
  cases b <;> simp [behindInMarks, e1, e2]
/-- a comparison as a value; hm: nomark b, or (for in, not in) by with_unfolding_all rfl -/
theorem pe_cmpR {op : CmpOp} {r : R2} (ho : OpR X (compareOp op) r) (ha : PE X a ta) (hb : PE X b tb) (hm : behindInMarks op b = false) : PE X (.Compare a [op] [b] pos) (tOp r ta tb) := by
  intro pins s σ H Q I h
  exact wpAny_Compare1 (binT ha hb I h fun v u s2 x y H2 I2 rx ry q => ho pins s2 σ H2 x y v u Q I2 rx ry q) hm
/-- a reading of a value as a test -/
def tTest (t : TE) : TT := fun σ H Q => t σ H fun x H' => ∃ k, x = .bl k ∧ Q k H'
theorem pt_cmpR {op : CmpOp} {r : R2} (ho : OpR X (compareOp op) r) (ha : PE X a ta) (hb : PE X b tb) (hm : behindInMarks op b = false) : PT X (.Compare a [op] [b] pos) (tTest (tOp r ta tb)) := by
  intro pins s σ H Q I h
  refine wpAny_isTrue_Compare1 (thn (ha pins s σ H _ I h) fun v s1 ⟨x, H1, I1, r1, q1⟩ => thn (hb pins s1 σ H1 _ I1 q1) fun u s2 ⟨y, H2, I2, r2, q2⟩ =>
    thn (ho pins s2 σ H2 x y v u _ I2 r1 r2 q2) fun c s3 ⟨z, H3, I3, r3, k, e, q3⟩ => ?_) hm
  subst e
  cases r3
  exact wpAny_truthy_bool ⟨H3, I3, q3⟩
/-- a op1 b op2 c -/
def tChain (r r' : R2) (ta tb tc : TE) : TE := fun σ H Q => ta σ H fun x H1 => tb σ H1 fun y H2 => r x y H2 fun z H3 => ∃ k, z = .bl k ∧
  (if k = true then tc σ H3 fun w' H4 => r' y w' H4 Q else Q (.bl false) H3)
/-! ### truth -/
/-- a value's truth by the abstract heap -/
def TruV (K : PySem.W.Frag) (x : V) (H : Hp) (k : Bool) : Prop :=
  match x with
  | .non => k = false
  | .bl b => k = b
  | .int i => k = (i != 0)
  | .str y => y.length ≤ sizeLine ∧ k = ((y.length : Int) != 0)
  | .byt y => y.size ≤ sizeLine ∧ k = ((y.size : Int) != 0)
  | .ref p => (∃ xs, SqL K H p xs ∧ k = !xs.isEmpty) ∨ (∃ xs, SqT K H p xs ∧ k = !xs.isEmpty) ∨ ∃ kvs, H p = some (.dK kvs) ∧ k = !kvs.isEmpty
  | _ => False
theorem isEmpty_kv {κ : Type} {kvs : List (κ × V)} {vs : List (κ × Value)} (r : KV kvs vs) : (!vs.isEmpty) = !kvs.isEmpty := by
  cases r <;> rfl
theorem isEmpty_of {xs : List V} {its : List Value} (r : Vals xs its) : (!its.toArray.isEmpty) = !xs.isEmpty := by
  cases r <;> simp
theorem line63 : (sizeLine : Nat) < 2 ^ 63 := by rw [sizeLine_eq]; decide
theorem tru_ok : TruR X (fun x H Q => ∃ k, TruV X.K x H k ∧ Q k H) := by
  intro pins s σ H x v Q I rx h
  obtain ⟨k, e, q⟩ := h
  have hl := line63
  have hs : sizeLine = 16777216 := sizeLine_eq
  cases x with
  | non =>
    cases rx
    have e' : k = false := e
    subst e'
    exact truthy_none ⟨H, I, q⟩
  | bl b =>
    cases rx
    have e' : k = b := e
    subst e'
    exact wpAny_truthy_bool ⟨H, I, q⟩
  | int i =>
    obtain ⟨t, rfl⟩ := rx
    have e' : k = (i != 0) := e
    subst e'
    exact PySem.P.truthy_int ⟨H, I, q⟩
  | str y =>
    obtain ⟨t, rfl⟩ := rx
    obtain ⟨hy, e'⟩ : y.length ≤ sizeLine ∧ k = ((y.length : Int) != 0) := e
    subst e'
    exact PySem.P.truthy_str (by omega) ⟨H, I.tok _, q⟩
  | byt y =>
    obtain ⟨t, rfl⟩ := rx
    obtain ⟨hy, e'⟩ : y.size ≤ sizeLine ∧ k = ((y.size : Int) != 0) := e
    subst e'
    exact PySem.W.truthy_bytes (by omega) ⟨H, I.tok _, q⟩
  | ref p =>
    cases rx
    have e' : (∃ xs, SqL X.K H p xs ∧ k = !xs.isEmpty) ∨ (∃ xs, SqT X.K H p xs ∧ k = !xs.isEmpty) ∨ ∃ kvs, H p = some (.dK kvs) ∧ k = !kvs.isEmpty := e
    rcases e' with ⟨xs, hx, e'⟩ | ⟨xs, hx, e'⟩ | ⟨kvs, hx, e'⟩
    · subst e'
      obtain ⟨its, r, pl, hz⟩ := I.list hx
      have hlen := r.length
      exact wpAny_truthy_list pl.isList (by simp only [List.size_toArray]; omega) ⟨H, I.tok _, by rw [isEmpty_of r]; exact q⟩
    · subst e'
      obtain ⟨its, r, pl, hz⟩ := I.tuple hx
      have hlen := r.length
      exact truthy_tuple pl (by simp only [List.size_toArray]; omega) ⟨H, I.tok _, by rw [isEmpty_of r]; exact q⟩
    · subst e'
      obtain ⟨hz, hS, vs, r, m⟩ : kvs.length ≤ sizeLine ∧ (p == sysModules) = false ∧ ∃ vs, KV kvs vs ∧ s.heap.DictOf (mixKind X.prog X.w) p vs := I.hok p _ hx
      have hlen : kvs.length = vs.length := Paired.length r
      exact wpAny_truthy_dict hS m (by omega) ⟨H, I.tok _, by rw [isEmpty_kv r]; exact q⟩
  | _ => exact (show False from e).elim
/-- any expression whose test is its value's truth (a name, a call, a subscript, a field ..: he by fun _ => rfl) -/
theorem pt_truth (ha : PE X a ta) (he : ∀ whole, isTrue a X.env whole = (do let v ← whole; standAt a.pos; holding [v] (truthy v))) :
    PT X a (fun σ H Q => ta σ H fun x H' => ∃ k, TruV X.K x H' k ∧ Q k H') := by
  intro pins s σ H Q I h
  exact isTrue_plain (thn (ha pins s σ H _ I h) fun v s1 ⟨x, H1, I1, r1, q1⟩ => tru_ok pins s1 σ H1 x v Q I1 r1 q1) (he _)

/-! ### strs and bytes -/
/-! ### scalar builtins, by CallR -/
theorem vals1 {x : V} {us : List Value} (r : Vals [x] us) : ∃ u, us = [u] ∧ RelV x u := by
  cases r with
  | cons r1 r2 => cases r2; exact ⟨_, rfl, r1⟩
theorem vals2 {x y : V} {us : List Value} (r : Vals [x, y] us) : ∃ u w', us = [u, w'] ∧ RelV x u ∧ RelV y w' := by
  cases r with
  | cons r1 r2 =>
    cases r2 with
    | cons r3 r4 => cases r4; exact ⟨_, _, rfl, r1, r3⟩
end
end L2

namespace L2
open PySem PySem.Spec PyProof.Rows

/-! ### an instance, its attributes a map -/
structure ObjM (h : Heap) (x dx C : Addr) (mA : Str → Option Value) : Prop where
  obj : h.get? x = some (PySem.W.instObj C dx)
  ns : h.Ns1 dx mA
  ne : dx ≠ x

theorem lookIn_ns {h : Heap} {dx : Addr} {mA : Str → Option Value} (n : h.Ns1 dx mA) : ∃ od, h.get? dx = some od ∧ ∀ name, PySem.W.lookIn name od = some (mA name) := by
  obtain ⟨o, es, ep, ho, hd, hk, _, hm⟩ := n
  refine ⟨o, ho, fun name => ?_⟩
  have e := hm name
  unfold nsFind findBy at e
  rw [← Array.find?_toList] at e
  unfold PySem.W.lookIn
  rw [hd]
  dsimp only
  split
  · rename_i y q
    rw [q] at e
    exact congrArg some e
  · rename_i q
    rw [q] at e
    have a : es.toList.any (·.refKey) = false := by
      rw [List.any_eq_false]
      intro y hy
      obtain ⟨z, t, hkey⟩ := hk y (Array.mem_toList_iff.mp hy)
      simp [DictEntry.refKey, hkey]
    have a' : ¬ es.toList.any (·.refKey) = true := by rw [a]; exact Bool.false_ne_true
    rw [if_neg a']
    exact congrArg some e

theorem ObjM.look {h : Heap} {x dx C : Addr} {mA : Str → Option Value} (I : ObjM h x dx C mA) : ∃ od, PySem.W.InstAt h x (PySem.W.instObj C dx) C (some od) ∧ ∀ name, PySem.W.lookIn name od = some (mA name) :=
  let ⟨od, ho, hl⟩ := lookIn_ns I.ns
  ⟨od, ⟨I.obj, rfl, rfl, ho⟩, hl⟩

section
variable {prog : Program} {w : World} {A : Around} {E : Value → Shared → Prop} {s : Shared} {K : PySem.W.Frag} {x dx C f : Addr} {mA : Str → Option Value} {name : Str} {v : Value}

theorem get_map {expr : Bool} {Q : Value → Shared → Prop} (X : K.In s.heap) (I : ObjM s.heap x dx C mA) (hg : PySem.W.plainGet K C name = true) (hh : PySem.W.hasDictIn K C = true)
    (ha : PySem.W.findIn K (.ref C) name = some none) (hv : mA name = some v) (hv' : PySem.W.handedIn v = true) (h : Q v { s with toks := s.toks + 1 }) :
    wpAny (model prog w) A (getAttr (.ref x) name expr) Q E s := by
  obtain ⟨od, J, hl⟩ := I.look
  exact PySem.W.get_value X J (PySem.W.plainGet_of hg).1 (PySem.W.findObj_own hh ha rfl (by rw [hl, hv])) hv' h

theorem get_meth {pl : Sem Bool} {Q : Value × List Value → Shared → Prop} (X : K.In s.heap) (I : ObjM s.heap x dx C mA) (hg : PySem.W.plainGet K C name = true)
    (hf : PySem.W.findIn K (.ref C) name = some (some (.ref f))) (ht : PySem.W.isFn K (.ref f) = true) (hv : mA name = none) (h : Q (.ref f, [.ref x]) s) :
    wpAny (model prog w) A (getMethod (.ref x) name pl) Q E s := by
  obtain ⟨od, J, hl⟩ := I.look
  exact PySem.W.method_fn X J (PySem.W.plainGet_of hg).1 (PySem.W.plainGet_of hg).2 hf (beq_iff_eq.mp ht) (by show (PySem.W.lookIn name od).map (·.isSome) = some false; rw [hl, hv]; rfl) h

theorem set_map {ns : List Str} {Q : Unit → Shared → Prop} (X : K.In s.heap) (I : ObjM s.heap x dx C mA)
    (hs : PySem.W.findIn K (.ref C) "__setattr__" = some (some (.builtin "object.__setattr__"))) (hp : PySem.W.plainOver K C = true) (ht : PySem.W.takerIn K C name = some none) (hh : PySem.W.hasDictIn K C = true)
    (hw : PySem.Within mA ns) (hsz : ns.length ≤ sizeLine)
    (h : ∀ h', ObjM h' x dx C (fun y => if y = name then some v else mA y) → Heap.SameBut dx s.heap h' → Q () { s with heap := h', toks := s.toks + 2 }) :
    wpAny (model prog w) A (setAttr (.ref x) name v) Q E s := by
  obtain ⟨od, J, hl⟩ := I.look
  refine PySem.W.set_plain X J hs (PySem.W.osa_open (s := { s with toks := s.toks + 1 }) (r := none) X J hp ht fun b => ?_)
  obtain ⟨cd, hc, hd'⟩ := PySem.W.any_some hh
  have hx : s.heap.get? x = some ⟨.ref C, some dx, .plain, #[]⟩ := I.obj
  refine wpAny_bind (wpAny_pure (wpAny_bind (wpAny_bind (wpAny_loadPart hx (wpAny_bind (PySem.W.Looks.here (s := { s with toks := s.toks + 1 }) (PySem.W.looks_clsIn X hc) ?_))))))
  rw [hd']
  refine wpAny_pure (a := some dx) (wpAny_bind (wpAny_pure (wpAny_bind ?_)))
  refine wpAny_nsSet1 (s := { s with toks := s.toks + 1 }) I.ns fun h' hn2 hs2 => ?_
  obtain ⟨oD, esD, epD, hoD, hdD, hcD⟩ := hn2.count (PySem.Within.cons name v hw)
  refine wpAny_bind (wpAny_lookBehind hoD (by rw [hdD]; exact pastItsLine_dict (Nat.le_trans hcD (by rw [List.length_cons]; omega))) ?_)
  exact wpAny_pure (h _ ⟨(hs2.2 _ (Ne.symm I.ne)).trans I.obj, hn2, I.ne⟩ hs2)

/-- C(..): the dict at the heap's end, the instance behind it; then its __init__ -/
theorem make_map {R : Result → Shared → Prop} {vs : List Value} {kw : List (Str × Value)} (X : K.In s.heap) (hm : PySem.W.makesIn K C = true)
    (hi : PySem.W.findIn K (.ref C) "__init__" = some (some (.ref f))) (hf : PySem.W.typeIn K (.ref f) = some (.type "function"))
    (h : codeAny (model prog w) (A.under (.builtin "type.__call__" ⟨.ref C :: vs, kw⟩)) (.call (.ref f) ⟨.ref (s.heap.objs.size + 1) :: vs, kw⟩) (PySem.W.InitBack (s.heap.objs.size + 1) R)
      { s with heap := (s.heap.push PySem.W.emptyDict).push (PySem.W.instObj C s.heap.objs.size) }) :
    codeAny (model prog w) A (.call (.ref C) ⟨vs, kw⟩) R s := by
  obtain ⟨hh, g, d, t, os⟩ := s
  exact PySem.W.make_core (PySem.W.makes_of X hm) (PySem.W.looks_findIn X hi) (fun self => PySem.W.bind_fn X self hf) (.inl rfl) h
end

/-! ### the attributes as a list of pairs -/
def putF (f : Str) (v : V) : List (Str × V) → List (Str × V)
  | [] => [(f, v)]
  | (g, x) :: r => if g = f then (g, v) :: r else (g, x) :: putF f v r
theorem lookup_putF (f g : Str) (v : V) : ∀ fs : List (Str × V), (putF f v fs).lookup g = if g = f then some v else fs.lookup g
  | [] => by
    show List.lookup g [(f, v)] = _
    by_cases h : g = f
    · have hb : (g == f) = true := beq_iff_eq.mpr h
      simp only [List.lookup, hb, if_pos h]
    · have hb : (g == f) = false := beq_eq_false_iff_ne.mpr h
      simp only [List.lookup, hb, if_neg h]
  | (k, x) :: r => by
    have ih := lookup_putF f g v r
    rw [show putF f v ((k, x) :: r) = (if k = f then (k, v) :: r else (k, x) :: putF f v r) from rfl]
    by_cases hk : k = f
    · rw [if_pos hk]
      by_cases h : g = k
      · have hb : (g == k) = true := beq_iff_eq.mpr h
        simp only [List.lookup, hb, if_pos (h.trans hk)]
      · have hb : (g == k) = false := beq_eq_false_iff_ne.mpr h
        simp only [List.lookup, hb, if_neg (fun e : g = f => h (e.trans hk.symm))]
    · rw [if_neg hk]
      by_cases h : g = k
      · have hb : (g == k) = true := beq_iff_eq.mpr h
        simp only [List.lookup, hb, if_neg (fun e : g = f => hk (h.symm.trans e))]
      · have hb : (g == k) = false := beq_eq_false_iff_ne.mpr h
        simp only [List.lookup, hb]
        exact ih
theorem keys_putF (f : Str) (v : V) : ∀ fs : List (Str × V), f ∈ (putF f v fs).map (·.1) ∧ ∀ g, g ∈ fs.map (·.1) → g ∈ (putF f v fs).map (·.1)
  | [] => ⟨by simp [putF], fun g h => by simp at h⟩
  | (k, x) :: r => by
    obtain ⟨i1, i2⟩ := keys_putF f v r
    rw [show putF f v ((k, x) :: r) = (if k = f then (k, v) :: r else (k, x) :: putF f v r) from rfl]
    by_cases hk : k = f
    · rw [if_pos hk]
      subst hk
      exact ⟨by simp, fun g h => by simpa using h⟩
    · rw [if_neg hk]
      refine ⟨?_, fun g h => ?_⟩
      · rw [List.map_cons]
        exact List.mem_cons_of_mem _ i1
      · rw [List.map_cons] at h ⊢
        rcases List.mem_cons.mp h with e | e
        · exact List.mem_cons.mpr (.inl e)
        · exact List.mem_cons_of_mem _ (i2 g e)
theorem length_putF (f : Str) (v : V) : ∀ fs : List (Str × V), (putF f v fs).length ≤ fs.length + 1
  | [] => by simp [putF]
  | (k, x) :: r => by
    have ih := length_putF f v r
    rw [show putF f v ((k, x) :: r) = (if k = f then (k, v) :: r else (k, x) :: putF f v r) from rfl]
    by_cases hk : k = f
    · rw [if_pos hk, List.length_cons, List.length_cons]; omega
    · rw [if_neg hk, List.length_cons, List.length_cons]; omega

theorem RelO.some_of {v : V} {o : Option Value} (r : RelO (some v) o) : ∃ u, o = some u ∧ RelV v u := by
  cases o with
  | none => exact (show False from r).elim
  | some u => exact ⟨u, rfl, r⟩
theorem RelO.none_of {o : Option Value} (r : RelO none o) : o = none := by
  cases o with
  | none => rfl
  | some u => exact (show False from r).elim
theorem handed_of {v : V} {u : Value} (r : RelV v u) : PySem.W.handedIn u = true := by
  cases v with
  | non => cases (show u = Value.none from r); rfl
  | bl b => cases (show u = Value.bool b from r); rfl
  | int i => obtain ⟨t, e⟩ := (show ∃ t, u = Value.int i t from r); cases e; rfl
  | str x => obtain ⟨t, e⟩ := (show ∃ t, u = Value.str x t from r); cases e; rfl
  | byt b => obtain ⟨t, e⟩ := (show ∃ t, u = Value.bytes b t from r); cases e; rfl
  | flt b => obtain ⟨t, e⟩ := (show ∃ t, u = Value.float b t from r); cases e; rfl
  | ref a => cases (show u = Value.ref a from r); rfl
  | ty n => cases (show u = Value.type n from r); rfl

section
variable {P : Program} {w : World} {H H' : Hp} {h h' : Heap} {a C dx : Addr} {fs fs' : List (Str × V)}
theorem ins_get (hok : HOk P w H h) (e : H a = some (.ins C dx fs)) : ∃ mA, ObjM h a dx C mA ∧ (∀ f, RelO (fs.lookup f) (mA f)) ∧ PySem.Within mA (fs.map (·.1)) ∧ fs.length ≤ 1000 ∧ H dx = some (.own a) := by
  obtain ⟨d, z, ne, ob, mA, n, r, q⟩ := (show ObjOk P w H h a (.ins C dx fs) from hok a _ e)
  exact ⟨mA, ⟨ob, n, ne⟩, r, q, z, d⟩
end

/-! ### what of the text a class must have -/
structure Cls (K : PySem.W.Frag) (C : Addr) : Prop where
  pg : PySem.W.plainGet K C Str.empty = true
  hd : PySem.W.hasDictIn K C = true
  po : PySem.W.plainOver K C = true
  sa : PySem.W.findIn K (.ref C) "__setattr__" = some (some (.builtin "object.__setattr__"))
theorem Cls.get {K : PySem.W.Frag} {C : Addr} (c : Cls K C) (f : Str) : PySem.W.plainGet K C f = true := c.pg
/-- no class of it has the name -/
def NoAttr (K : PySem.W.Frag) (C : Addr) (f : Str) : Prop := PySem.W.findIn K (.ref C) f = some none
theorem NoAttr.taker {K : PySem.W.Frag} {C : Addr} {f : Str} (n : NoAttr K C f) : PySem.W.takerIn K C f = some none := by
  unfold PySem.W.takerIn
  rw [show PySem.W.findIn K (.ref C) f = some none from n]
  rfl
/-- a method: a plain def of the class or of one above it -/
structure Meth (K : PySem.W.Frag) (C : Addr) (m : Str) (f : Addr) : Prop where
  at_ : PySem.W.findIn K (.ref C) m = some (some (.ref f))
  fn : PySem.W.isFn K (.ref f) = true
  kp : PySem.W.keepIn K (.ref f) = true

section
variable {X : Cx} {pins : List (Addr × Obj)} {σ : St} {H : Hp} {s : Shared} {a C dx : Addr} {fs : List (Str × V)} {f : Str} {v : V} {A : Around} {E : Value → Shared → Prop}

theorem getattr_ok {b : Bool} {Q : Value → Shared → Prop} (I : Inv X pins σ H s) (e : H a = some (.ins C dx fs)) (c : Cls X.K C) (n : NoAttr X.K C f) (l : fs.lookup f = some v)
    (h : ∀ u s', Inv X pins σ H s' → RelV v u → Q u s') : wpAny (model X.prog X.w) A (getAttr (.ref a) f b) Q E s := by
  obtain ⟨mA, O, r, _, _, _⟩ := ins_get I.hok e
  obtain ⟨u, hu, ru⟩ := RelO.some_of (v := v) (o := mA f) (by rw [← l]; exact r f)
  exact get_map I.kIn O (c.get f) c.hd n hu (handed_of ru) (h u _ (I.tok _) ru)

theorem getmeth_ok {m : Str} {g : Addr} {pl : Sem Bool} {Q : Value × List Value → Shared → Prop} (I : Inv X pins σ H s) (e : H a = some (.ins C dx fs)) (c : Cls X.K C) (k : Meth X.K C m g) (l : fs.lookup m = none)
    (h : Q (.ref g, [.ref a]) s) : wpAny (model X.prog X.w) A (getMethod (.ref a) m pl) Q E s := by
  obtain ⟨mA, O, r, _, _, _⟩ := ins_get I.hok e
  have hn : mA m = none := RelO.none_of (by rw [← l]; exact r m)
  exact get_meth I.kIn O (c.get m) k.at_ k.fn hn h

theorem setattr_ok {y : V} {u : Value} {Q : Unit → Shared → Prop} (I : Inv X pins σ H s) (e : H a = some (.ins C dx fs)) (c : Cls X.K C) (n : NoAttr X.K C f) (hl : fs.length < 1000) (ry : RelV y u)
    (h : ∀ s', Inv X pins σ (upd H a (.ins C dx (putF f y fs))) s' → Q () s') : wpAny (model X.prog X.w) A (setAttr (.ref a) f u) Q E s := by
  obtain ⟨mA, O, r, wi, _, ho⟩ := ins_get I.hok e
  have hz : (fs.map (·.1)).length ≤ sizeLine := by rw [List.length_map, sizeLine_eq]; omega
  refine set_map I.kIn O c.sa c.po n.taker c.hd wi hz fun h' O' sb => h _ ?_
  have hd : ∃ o, h'.get? dx = some o := let ⟨o, _, _, e', _⟩ := O'.ns; ⟨o, e'⟩
  refine I.write (x := a) (e := dx) (by rw [e]; exact True.intro) (.inr ho) (fun b q hb z => (sb.2 b hb).trans z) hd ?_
  refine ⟨by rw [upd_ne O.ne]; exact ho, ?_, O.ne, O'.obj, _, O'.ns, fun g => ?_, fun g hg => ?_⟩
  · have := length_putF f y fs; omega
  · show RelO ((putF f y fs).lookup g) (if g = f then some u else mA g)
    rw [lookup_putF]
    by_cases q : g = f
    · rw [if_pos q, if_pos q]; exact ry
    · rw [if_neg q, if_neg q]; exact r g
  · by_cases q : g = f
    · rw [q]; exact (keys_putF f y fs).1
    · refine (keys_putF f y fs).2 g (wi g fun z => hg ?_)
      show (if g = f then some u else mA g) = none
      rw [if_neg q]; exact z

/-- a new instance, tracked, without attributes -/
theorem Inv.made (I : Inv X pins σ H s) : Inv X pins σ (upd (upd H s.heap.objs.size (.own (s.heap.objs.size + 1))) (s.heap.objs.size + 1) (.ins C s.heap.objs.size []))
    { s with heap := (s.heap.push PySem.W.emptyDict).push (PySem.W.instObj C s.heap.objs.size) } := by
  have e1 : (s.heap.push PySem.W.emptyDict).get? s.heap.objs.size = some PySem.W.emptyDict := Heap.get?_push_size s.heap rfl
  have e2 : ((s.heap.push PySem.W.emptyDict).push (PySem.W.instObj C s.heap.objs.size)).get? (s.heap.objs.size + 1) = some (PySem.W.instObj C s.heap.objs.size) := by
    have := Heap.get?_push_size (s.heap.push PySem.W.emptyDict) (o := PySem.W.instObj C s.heap.objs.size) rfl
    rwa [Heap.size_push] at this
  have e3 : (s.heap.push PySem.W.emptyDict).Ns s.heap.objs.size (fun _ => none) := ⟨PySem.W.emptyDict, #[], _, e1, rfl, (fun e he => absurd he (by simp)), fun _ => rfl⟩
  have I1 := I.laid (a := s.heap.objs.size) (o := .own (s.heap.objs.size + 1)) (h' := s.heap.push PySem.W.emptyDict) (t' := s.toks) (fun b u q => Heap.get?_push_of_some _ q) (Nat.le_refl _) ⟨_, e1⟩
  refine I1.laid (a := s.heap.objs.size + 1) (o := .ins C s.heap.objs.size []) (t' := s.toks) (fun b u q => Heap.get?_push_of_some _ q) (Nat.le_of_eq (Heap.size_push _ _)) ?_
  have ne : s.heap.objs.size ≠ s.heap.objs.size + 1 := Nat.ne_of_lt (Nat.lt_succ_self _)
  refine ⟨by rw [upd_ne ne, upd_same], Nat.zero_le _, ne, e2, fun _ => none, (Heap.Ns1.of_empty e3).at fun o q => Heap.get?_push_of_some _ q, fun _ => True.intro, fun y hy => absurd rfl hy⟩

/-- e.f where nothing but the object is asked: through attributeBase (super) and the last hold -/
theorem attr_of {prog : Program} {w : World} {env : Env} {e : Expr} {f : Str} {pos : Pos} {s : Shared} {Q : Value → Shared → Prop} (hb : attributeBase e f env (eval e env) = eval e env)
    (h : wpAny (model prog w) A (eval e env) (fun o s₁ => wpAny (model prog w) A (getAttr o f true) Q E s₁) E s) : wpAny (model prog w) A (eval (.Attribute e f pos) env) Q E s :=
  Attribute_any_ h (by rw [arm_eval_Attribute, hb])
end

/-! ### readings and rules -/
/-- e.f, an attribute of the instance -/
def tFld (K : PySem.W.Frag) (ta : TE) (f : Str) : TE := fun σ H Q => ta σ H fun x H1 => ∃ a C dx fs v, x = .ref a ∧ H1 a = some (.ins C dx fs) ∧ Cls K C ∧ NoAttr K C f ∧ fs.lookup f = some v ∧ Q v H1
/-- e.f = value -/
def sFld (K : PySem.W.Frag) (ta tv : TE) (f : Str) : TS := fun D σ H => tv σ H fun y H1 => ta σ H1 fun x H2 => ∃ a C dx fs, x = .ref a ∧ H2 a = some (.ins C dx fs) ∧ Cls K C ∧ NoAttr K C f ∧ fs.length < 1000 ∧
  D.nx σ (upd H2 a (.ins C dx (putF f y fs)))
/-- an augmented operator on two values -/
def InOp (X : Cx) (op : Operator) (rd : V → V → Hp → VK → Prop) : Prop :=
  ∀ (pins : List (Addr × Obj)) (s : Shared) (σ : St) (H : Hp) (x y : V) (u v : Value) (Q : VK), Inv X pins σ H s → RelV x u → RelV y v → rd x y H Q → wpAny (model X.prog X.w) X.A (inplaceOp op u v) (EP X pins σ Q) X.xe s
/-- e.f op= value -/
def sFldAug (K : PySem.W.Frag) (ta tv : TE) (rd : V → V → Hp → VK → Prop) (f : Str) : TS := fun D σ H => ta σ H fun x H1 => ∃ a C dx fs v, x = .ref a ∧ H1 a = some (.ins C dx fs) ∧ Cls K C ∧ NoAttr K C f ∧ fs.lookup f = some v ∧
  tv σ H1 fun y H2 => rd v y H2 fun z H3 => ∃ dx' fs', H3 a = some (.ins C dx' fs') ∧ fs'.length < 1000 ∧ D.nx σ (upd H3 a (.ins C dx' (putF f z fs')))

section
variable {X : Cx} {o e value : Expr} {f : Str} {pos pos' tpos : Pos} {ta tv : TE}
theorem pe_fld (he : PE X e ta) (hb : attributeBase e f X.env (eval e X.env) = eval e X.env) : PE X (.Attribute e f pos) (tFld X.K ta f) := by
  intro pins s σ H Q I h
  refine attr_of hb (thn (he pins s σ H _ I h) fun u s1 ⟨x, H1, I1, rx, a, C, dx, fs, v, ex, ea, c, n, l, q⟩ => ?_)
  subst ex
  obtain rfl : u = Value.ref a := rx
  exact getattr_ok I1 ea c n l fun u' s2 I2 ru => ⟨v, H1, I2, ru, q⟩
theorem ps_fld (ha : PE X o ta) (hv : PE X value tv) (hs : swapsWith value (some (.Attribute o f pos')) pos.line X.env = pure false) : PS X (.Assign [.Attribute o f pos'] value pos) (sFld X.K ta tv f) := by
  intro pins s σ H D I h
  refine plainObj_wpAny_Assign_Attribute (thn (hv pins s σ H _ I h) fun u s1 ⟨y, H1, I1, ry, q⟩ => thn (ha pins s1 σ H1 _ I1 q) fun ov s2 ⟨x, H2, I2, rx, a, C, dx, fs, ex, ea, c, n, l, q2⟩ => ?_) hs
  subst ex
  obtain rfl : ov = Value.ref a := rx
  exact setattr_ok I2 ea c n l ry fun s3 I3 => ⟨σ, _, I3, q2⟩
theorem ps_fldaug {op : Operator} {rd : V → V → Hp → VK → Prop} (ha : PE X o ta) (hv : PE X value tv) (hop : InOp X op rd) : PS X (.AugAssign (.Attribute o f tpos) op value pos) (sFldAug X.K ta tv rd f) := by
  intro pins s σ H D I h
  refine wpAny_AugAssign_AttributeAny (thn (ha pins s σ H _ I h) fun ov s1 ⟨x, H1, I1, rx, a, C, dx, fs, v, ex, ea, c, n, l, q⟩ => ?_)
  subst ex
  obtain rfl : ov = Value.ref a := rx
  refine getattr_ok I1 ea c n l fun u s2 I2 ru => thn (hv pins s2 σ H1 _ I2 q) fun w3 s3 ⟨y, H2, I3, ry, q3⟩ => thn (hop pins s3 σ H2 v y u w3 _ I3 ru ry q3) fun w4 s4 ⟨z, H3, I4, rz, dx', fs', ea', l', q4⟩ => ?_
  exact setattr_ok I4 ea' c n l' rz fun s5 I5 => ⟨σ, _, I5, q4⟩
def rAdd : V → V → Hp → VK → Prop := fun x y H Q => ∃ i j, x = .int i ∧ y = .int j ∧ Q (.int (i + j)) H
theorem in_add : InOp X .Add rAdd := by
  rintro pins s σ H x y u v Q I rx ry ⟨i, j, rfl, rfl, q⟩
  obtain ⟨t, rfl⟩ := (show ∃ t, u = Value.int i t from rx)
  obtain ⟨t', rfl⟩ := (show ∃ t', v = Value.int j t' from ry)
  exact PyProof.Rows.iadd_int ⟨.int (i + j), H, I.tok _, ⟨_, rfl⟩, q⟩
end

/-! ### isinstance -/
section
variable {X : Cx} {pins : List (Addr × Obj)} {σ : St} {H : Hp} {s : Shared} {A : Around} {E : Value → Shared → Prop} {Q : Value → Shared → Prop} {c : Value} {b : Bool}
end
end L2

namespace L2
open PySem PySem.Spec PyProof.Rows

/-! ### room -/
structure Room (k : Nat) (A : Around) : Prop where
  hd : A.handled = none
  dp : A.depth + 3 * k + 5 < recursionLimit
  un : A.units + 16 * k + 200 < cLine
theorem Room.mono {j k : Nat} {A : Around} (r : Room k A) (h : j ≤ k) : Room j A := ⟨r.hd, by have := r.dp; omega, by have := r.un; omega⟩
theorem Room.deeper {k : Nat} {A : Around} (r : Room (k + 1) A) (env : Env) : Room k (A.deeper env) :=
  ⟨r.hd, by have := r.dp; show A.depth + 1 + 3 * k + 5 < _; omega, by have := r.un; show A.units + 3 + 16 * k + 200 < _; omega⟩
theorem Room.in1 {k : Nat} {A : Around} (r : Room (k + 1) A) : Room k A.in1 :=
  ⟨r.hd, by have := r.dp; show A.depth + 3 * k + 5 < _; omega, by have := r.un; show A.units + 1 + 16 * k + 200 < _; omega⟩
theorem make_depth {A : Around} {C : Addr} {us : List Value} {kw : List (Str × Value)} : (A.under (.builtin "type.__call__" ⟨.ref C :: us, kw⟩)).depth = A.depth + 1 := by
  first | rfl | simp [Around.under, Code.weight, Code.isCreation, Code.isGuard, Code.isCaller, Code.frames, Code.isFrame, guardIds]
theorem make_units {A : Around} {C : Addr} {us : List Value} {kw : List (Str × Value)} : (A.under (.builtin "type.__call__" ⟨.ref C :: us, kw⟩)).units = A.units + 1 := by
  first | rfl | simp [Around.under, Code.cUnits, Code.frames, Code.isFrame]
theorem Room.make {k : Nat} {A : Around} (r : Room (k + 1) A) (C : Addr) (us : List Value) (kw : List (Str × Value)) : Room k (A.under (.builtin "type.__call__" ⟨.ref C :: us, kw⟩)) :=
  ⟨r.hd, by have := r.dp; rw [make_depth]; omega, by have := r.un; rw [make_units]; omega⟩
theorem Room.depth {k : Nat} {A : Around} (r : Room k A) : A.depth < recursionLimit := by have := r.dp; omega
theorem Room.units {k : Nat} {A : Around} (r : Room k A) : A.units + 64 < cLine := by have := r.un; omega
/-! ### argument lists and displays -/
def tNil : TA := fun _ H Q => Q [] H
def tCons (ta : TE) (tr : TA) : TA := fun σ H Q => ta σ H fun x H1 => tr σ H1 fun xs H2 => Q (x :: xs) H2
section
variable {X : Cx} {e : Expr} {es : List Expr} {te : TE} {t : TA} {pos : Pos}
theorem pa_nil : PA X [] tNil := fun _ _ _ _ H Q I h => Calls.spliced_nil ⟨[], H, I, .nil, h⟩
theorem pa_cons (ha : PE X e te) (hr : PA X es t) (hs : starEach (e :: es) X.env = (false, eval e X.env) :: starEach es X.env := by rfl) : PA X (e :: es) (tCons te t) := by
  intro pos pins s σ H Q I h
  rw [hs]
  show wpAny _ _ (spliced ((false, eval e X.env) :: backTo pos (starEach es X.env))) _ _ s
  refine Calls.spliced_cons (thn (ha pins s σ H _ I h) fun u s1 ⟨x, H1, I1, r1, q1⟩ => ?_)
  exact thn (hr pos pins s1 σ H1 _ I1 q1) fun us s2 ⟨xs, H2, I2, r2, q2⟩ => ⟨x :: xs, H2, I2, .cons r1 r2, q2⟩

/-- a tuple, a list of written items -/
def tTup (t : TA) : TE := fun σ H Q => t σ H fun xs H1 => xs.length ≤ sizeLine ∧ ∀ p, H1 p = none → Q (.ref p) (upd H1 p (.tup xs))
def tLst (t : TA) : TE := fun σ H Q => t σ H fun xs H1 => xs.length ≤ sizeLine ∧ ∀ p, H1 p = none → Q (.ref p) (upd H1 p (.lst xs))
theorem pe_tup {x1} (h : PA X es t) : PE X (.Tuple es x1 pos) (tTup t) := by
  intro pins s σ H Q I hq
  refine wpAny_Tuple_spliced (thn (h pos pins s σ H _ I hq) fun us s1 ⟨xs, H1, I1, r, z, q⟩ => ⟨by rw [← r.length]; exact z, ?_⟩)
  have hf : H1 s1.heap.objs.size = none := I1.hok.fresh (Nat.le_refl _)
  refine ⟨.ref s1.heap.objs.size, upd H1 s1.heap.objs.size (.tup xs), I1.laid (t' := s1.toks) (fun b u e => Heap.get?_push_of_some _ e) (Nat.le_refl _) ?_, rfl, q _ hf⟩
  exact ⟨z, us, r, ⟨_, Heap.get?_push_size _ rfl, rfl, _, rfl⟩⟩
theorem pe_lst (h : PA X es t) : PE X (.List es pos) (tLst t) := by
  intro pins s σ H Q I hq
  refine wpAny_List_spliced (thn (h pos pins s σ H _ I hq) fun us s1 ⟨xs, H1, I1, r, z, q⟩ => ⟨by rw [← r.length]; exact z, ?_⟩)
  have hf : H1 s1.heap.objs.size = none := I1.hok.fresh (Nat.le_refl _)
  refine ⟨.ref s1.heap.objs.size, upd H1 s1.heap.objs.size (.lst xs), I1.laid (t' := s1.toks) (fun b u e => Heap.get?_push_of_some _ e) (Nat.le_refl _) ?_, rfl, q _ hf⟩
  exact ⟨z, us, 0, r, Heap.get?_push_size _ rfl⟩
end

/-! ### what a def promises -/
/-- a def's promise: the bound arguments in the parameters' order, the heap, the wanted end, the wanted exception -/
abbrev Sp := List V → Hp → VK → XK → Prop
/-- how an exception lies behind a call (file 08 gives it): the callers' frames, abstract heap and state ahead of the call, the wish, the exception, the state -/
abbrev CXT := List Env → Hp → Shared → XK → Value → Shared → Prop

/-- the state at a call -/
structure Env0 (P : Program) (w : World) (K : PySem.W.Frag) (mg : Str → Option Value) (base : Heap) (A : Around) (outer : List Env) (s : Shared) (H : Hp) : Prop where
  frames : A.frames = some outer
  mod : Mod K mg base
  bs : ∀ b o, base.get? b = some o → s.heap.get? b = some o ∧ H b = none
  bsz : base.objs.size ≤ s.heap.objs.size
  funs : s.heap.FunFrames base outer
  frf : ∀ b ∈ frs outer, H b = none
  hok : HOk P w H s.heap
  bare : AllBare s.gens
/-- a call's end -/
def CE (outer : List Env) (P : Program) (w : World) (H : Hp) (s : Shared) (Q : VK) (u : Value) (s' : Shared) : Prop :=
  ∃ v H', s'.os = s.os ∧ AllBare s'.gens ∧ Un (frs outer) [] H H' s.heap s'.heap ∧ HOk P w H' s'.heap ∧ RelV v u ∧ Q v H'
def CR (CX : CXT) (outer : List Env) (P : Program) (w : World) (H : Hp) (s : Shared) (Q : VK) (E : XK) (r : Result) (s' : Shared) : Prop :=
  match r with
  | .ok (.ret u) => CE outer P w H s Q u s'
  | .ok _ => False
  | .error e => CX outer H s E e s'
structure FnOk (P : Program) (w : World) (K : PySem.W.Frag) (mg : Str → Option Value) (base : Heap) (CX : CXT) (k : Nat) (f : Addr) (fd : FuncData) (ps : List Str) (sp : Sp) : Prop where
  len : ∀ vs H Q E, sp vs H Q E → vs.length = ps.length
  run : ∀ (A : Around) (outer : List Env) (s : Shared) (H : Hp) (args : Args) (us : List Value) (vs : List V) (Q : VK) (E : XK), Room k A → Env0 P w K mg base A outer s H → BindsTo s fd args (ps.zip us) → Vals vs us → sp vs H Q E →
    codeAny (model P w) A (.call (.ref f) args) (CR CX outer P w H s Q E) s
theorem FnOk.mono {P : Program} {w : World} {K : PySem.W.Frag} {mg : Str → Option Value} {base : Heap} {CX : CXT} {j k : Nat} {f : Addr} {fd : FuncData} {ps : List Str} {sp : Sp} (F : FnOk P w K mg base CX j f fd ps sp) (h : j ≤ k) :
    FnOk P w K mg base CX k f fd ps sp := ⟨F.len, fun A outer s H args us vs Q E hr => F.run A outer s H args us vs Q E (hr.mono h)⟩
/-- a weaker promise -/
theorem FnOk.imp {P : Program} {w : World} {K : PySem.W.Frag} {mg : Str → Option Value} {base : Heap} {CX : CXT} {k : Nat} {f : Addr} {fd : FuncData} {ps : List Str} {sp sp' : Sp} (F : FnOk P w K mg base CX k f fd ps sp)
    (h : ∀ vs H Q E, sp' vs H Q E → sp vs H Q E) : FnOk P w K mg base CX k f fd ps sp' :=
  ⟨fun vs H Q E q => F.len vs H Q E (h _ _ _ _ q), fun A outer s H args us vs Q E hr he hb hv hs => F.run A outer s H args us vs Q E hr he hb hv (h _ _ _ _ hs)⟩

theorem Env0.make {P : Program} {w : World} {K : PySem.W.Frag} {mg : Str → Option Value} {base : Heap} {A : Around} {outer : List Env} {s : Shared} {H : Hp} (e : Env0 P w K mg base A outer s H) (C : Addr) (us : List Value) (kw : List (Str × Value)) :
    Env0 P w K mg base (A.under (.builtin "type.__call__" ⟨.ref C :: us, kw⟩)) outer s H := ⟨by first | exact e.frames | (simpa [Around.under, Code.envs, Code.isFrame, pushEnvs] using e.frames), e.mod, e.bs, e.bsz, e.funs, e.frf, e.hok, e.bare⟩
theorem Env0.in1 {P : Program} {w : World} {K : PySem.W.Frag} {mg : Str → Option Value} {base : Heap} {A : Around} {outer : List Env} {s : Shared} {H : Hp} (e : Env0 P w K mg base A outer s H) :
    Env0 P w K mg base A.in1 outer s H := ⟨e.frames, e.mod, e.bs, e.bsz, e.funs, e.frf, e.hok, e.bare⟩

section
variable {X : Cx} {pins : List (Addr × Obj)} {σ : St} {H : Hp} {s s' : Shared}
/-- from a body: what a callee wants -/
theorem Inv.env0 (I : Inv X pins σ H s) : Env0 X.prog X.w X.K X.mg X.base X.A X.stack s H :=
  ⟨I.ok.frames, I.ok.mod, I.bs, Nat.le_trans I.ok.bsz I.sz, I.stack, I.stkFree, I.hok, I.bare⟩
/-- behind a call -/
theorem Inv.after {Q : VK} {u : Value} (I : Inv X pins σ H s) (h : CE X.stack X.prog X.w H s Q u s') : EP X pins σ Q u s' := by
  obtain ⟨v, H', os, bare, un, hok, r, q⟩ := h
  obtain ⟨hh, g, d, t, os'⟩ := s'
  obtain rfl : os' = s.os := os
  exact ⟨v, H', I.call (h' := hh) (g' := g) (d' := d) (t' := t) (ch := []) un hok bare (fun b z => absurd z (by simp)), r, q⟩
end

/-! ### calls -/
/-- f(..): the written arguments, then the defaults dvs; E: what is wanted of an exception -/
def tCall (sp : Sp) (dvs : List V) (E : XK) (t : TA) : TE := fun σ H Q => t σ H fun vs H1 => sp (vs ++ dvs) H1 Q E
/-- o.m(..) of an instance of the class at C -/
def tMeth (C : Addr) (m : Str) (sp : Sp) (dvs : List V) (E : XK) (ta : TE) (t : TA) : TE := fun σ H Q => ta σ H fun x H1 => ∃ a dx fs, x = .ref a ∧ H1 a = some (.ins C dx fs) ∧ fs.lookup m = none ∧
  t σ H1 fun vs H2 => sp (x :: (vs ++ dvs)) H2 Q E
/-- C(..): a new instance and its dict, then __init__ -/
def tMake (C : Addr) (sp : Sp) (dvs : List V) (E : XK) (t : TA) : TE := fun σ H Q => t σ H fun vs H1 => ∀ x dx, H1 x = none → H1 dx = none → dx ≠ x →
  sp (.ref x :: (vs ++ dvs)) (upd (upd H1 dx (.own x)) x (.ins C dx [])) (fun v H2 => v = .non ∧ Q (.ref x) H2) E

/-- how the parameters are bound: us the positional arguments, kw the keywords' values by name, ds the defaults that fill up -/
def Binds (K : PySem.W.Frag) (fd : FuncData) (ps : List Str) (ds : List Value) : Prop :=
  ∀ (s : Shared) (us : List Value), K.In s.heap → (us ++ ds).length = ps.length → BindsTo s fd ⟨us, []⟩ (ps.zip (us ++ ds))
/-- every parameter is given -/
theorem Binds.all {K : PySem.W.Frag} {fd : FuncData} {ps : List Str} (h : ∀ us : List Value, us.length = ps.length → bindArgs fd ⟨us, []⟩ = pure (ps.zip us)) : Binds K fd ps [] := fun s us _ hl => by
  rw [List.append_nil] at hl ⊢
  exact .of_eq (h us hl)

/-- an exception of a callee reaches what this body wants of exceptions -/
def Passes (CX : CXT) (X : Cx) (E : XK) : Prop := ∀ (pins : List (Addr × Obj)) (σ : St) (H : Hp) (s : Shared) (e : Value) (s' : Shared), Inv X pins σ H s → CX X.stack H s E e s' → X.xe e s'

section
variable {X : Cx} {CX : CXT} {k : Nat} {f C : Addr} {fd : FuncData} {ps : List Str} {sp : Sp} {dvs : List V} {ds : List Value} {E : XK} {x m : Str} {p pos apos : Pos} {e o : Expr} {es : List Expr} {ta : TE} {t : TA}

/-- the callee runs -/
theorem run_fn {pins : List (Addr × Obj)} {σ : St} {H : Hp} {s : Shared} {Q : VK} {us : List Value} {vs : List V} (F : FnOk X.prog X.w X.K X.mg X.base CX k f fd ps sp) (hr : Room k X.A) (hb : Binds X.K fd ps ds) (hd : Vals dvs ds) (hx : Passes CX X E)
    (I : Inv X pins σ H s) (r : Vals vs us) (h : sp (vs ++ dvs) H Q E) : wpAny (model X.prog X.w) X.A (call (.ref f) us) (EP X pins σ Q) X.xe s := by
  have r2 : Vals (vs ++ dvs) (us ++ ds) := r.append hd
  have hl : (us ++ ds).length = ps.length := by rw [← r2.length]; exact F.len _ _ _ _ h
  refine wpAny_call (codeAny_mono (F.run X.A X.stack s H ⟨us, []⟩ (us ++ ds) (vs ++ dvs) Q E hr I.env0 (hb s us I.kIn hl) r2 h) fun r s' hq => ?_)
  cases r with
  | error e => exact hx pins σ H s e s' I hq
  | ok fl =>
    cases fl with
    | ret u => exact I.after hq
    | next => exact False.elim hq
    | brk => exact False.elim hq
    | cont => exact False.elim hq

theorem pe_call (F : FnOk X.prog X.w X.K X.mg X.base CX k f fd ps sp) (hr : Room k X.A) (hg : Gl X x) (hm : X.mg x = some (.ref f)) (hk : PySem.W.keepIn X.K (.ref f) = true) (hb : Binds X.K fd ps ds) (hd : Vals dvs ds) (hx : Passes CX X E)
    (ha : PA X (e :: es) t) (hdb : (x == ("__debug__" : Str)) = false := by decide) (he : starEach (e :: es) X.env = (false, eval e X.env) :: starEach es X.env := by rfl) (hpl : (backTo pos (starEach es X.env)).any (·.1) = false := by rfl) :
    PE X (.Call (.Name x p) (e :: es) [] pos) (tCall sp dvs E t) := by
  intro pins s σ H Q I h
  refine wpAny_Call_Name_kw (ld_glob I hg hm ?_ hdb)
  refine PySem.W.callWith_K (h₀ := X.base) I.ok.mod.kin hk (thn (ha pos pins s σ H _ I h) fun us s1 ⟨vs, H1, I1, r, q⟩ => ⟨I1.kIn, ?_⟩) he hpl
  exact run_fn F hr hb hd hx I1 r q
/-- o.m(e, ..) -/
theorem pe_meth {pl : Sem Bool} (he : PE X o ta) (c : Cls X.K C) (hm : Meth X.K C m f) (F : FnOk X.prog X.w X.K X.mg X.base CX k f fd ps sp) (hr : Room k X.A) (hb : Binds X.K fd ps ds) (hd : Vals dvs ds) (hx : Passes CX X E) (ha : PA X (e :: es) t)
    (hst : starEach (e :: es) X.env = (false, eval e X.env) :: starEach es X.env := by rfl) (hpl : (backTo pos (starEach es X.env)).any (·.1) = false := by rfl)
    (ht : eval (.Call (.Attribute o m apos) (e :: es) [] pos) X.env = (do
      let ov ← eval o X.env
      standAt apos.atName
      let (f, first) ← holding [ov] (getMethod ov m pl)
      callWith pos f first (backTo pos (starEach (e :: es) X.env)) (backToKw pos (keywordEach [] X.env))) := by rfl) :
    PE X (.Call (.Attribute o m apos) (e :: es) [] pos) (tMeth C m sp dvs E ta t) := by
  intro pins s σ H Q I h
  refine PySem.W.methodCall_KW (pl := pl) (thn (he pins s σ H _ I h) fun u s1 ⟨x, H1, I1, rx, a, dx, fs, ex, ea, l, q⟩ => ?_) ht
  subst ex
  obtain rfl : u = Value.ref a := rx
  refine getmeth_ok I1 ea c hm l ?_
  refine PySem.W.callWith_K (first := [.ref a]) (h₀ := X.base) I.ok.mod.kin hm.kp (thn (ha pos pins s1 σ H1 _ I1 q) fun us s2 ⟨vs, H2, I2, r, q2⟩ => ⟨I2.kIn, ?_⟩) hst hpl
  exact run_fn (us := .ref a :: us) (vs := .ref a :: vs) F hr hb hd hx I2 (.cons rfl r) q2
/-- o.m() -/
theorem pe_meth0 {pl : Sem Bool} (he : PE X o ta) (c : Cls X.K C) (hm : Meth X.K C m f) (F : FnOk X.prog X.w X.K X.mg X.base CX k f fd ps sp) (hr : Room k X.A) (hb : Binds X.K fd ps ds) (hd : Vals dvs ds) (hx : Passes CX X E)
    (ht : eval (.Call (.Attribute o m apos) [] [] pos) X.env = (do
      let ov ← eval o X.env
      standAt apos.atName
      let (f, first) ← holding [ov] (getMethod ov m pl)
      callWith pos f first (backTo pos (starEach [] X.env)) (backToKw pos (keywordEach [] X.env))) := by rfl) :
    PE X (.Call (.Attribute o m apos) [] [] pos) (tMeth C m sp dvs E ta tNil) := by
  intro pins s σ H Q I h
  refine PySem.W.methodCall_KW (pl := pl) (thn (he pins s σ H _ I h) fun u s1 ⟨x, H1, I1, rx, a, dx, fs, ex, ea, l, q⟩ => ?_) ht
  subst ex
  obtain rfl : u = Value.ref a := rx
  refine getmeth_ok I1 ea c hm l ?_
  exact PySem.W.callWith_K0 (first := [.ref a]) I1.kIn hm.kp (run_fn (us := [.ref a]) (vs := [.ref a]) F hr hb hd hx I1 (.cons rfl .nil) q)

/-- what a class must have to be made -/
structure Mk (K : PySem.W.Frag) (C f : Addr) : Prop where
  makes : PySem.W.makesIn K C = true
  init : PySem.W.findIn K (.ref C) "__init__" = some (some (.ref f))
  fn : PySem.W.isFn K (.ref f) = true
  kp : PySem.W.keepIn K (.ref C) = true

theorem run_make {pins : List (Addr × Obj)} {σ : St} {H : Hp} {s : Shared} {Q : VK} {us : List Value} {vs : List V} (M : Mk X.K C f) (F : FnOk X.prog X.w X.K X.mg X.base CX k f fd ps sp) (hr : Room (k + 1) X.A) (hb : Binds X.K fd ps ds) (hd : Vals dvs ds)
    (hx : Passes CX X E) (I : Inv X pins σ H s) (r : Vals vs us)
    (h : ∀ x dx, H x = none → H dx = none → dx ≠ x → sp (.ref x :: (vs ++ dvs)) (upd (upd H dx (.own x)) x (.ins C dx [])) (fun v H2 => v = .non ∧ Q (.ref x) H2) E) :
    wpAny (model X.prog X.w) X.A (call (.ref C) us) (EP X pins σ Q) X.xe s := by
  have hq := h (s.heap.objs.size + 1) s.heap.objs.size (I.hok.fresh (Nat.le_succ _)) (I.hok.fresh (Nat.le_refl _)) (Nat.ne_of_lt (Nat.lt_succ_self _))
  have I2 := Inv.made (C := C) I
  have r2 : Vals (V.ref (s.heap.objs.size + 1) :: (vs ++ dvs)) (Value.ref (s.heap.objs.size + 1) :: (us ++ ds)) := .cons rfl (r.append hd)
  have hl : (Value.ref (s.heap.objs.size + 1) :: us ++ ds).length = ps.length := by
    have e := r2.length
    rw [F.len _ _ _ _ hq] at e
    exact e.symm
  refine wpAny_call (make_map (f := f) I.kIn M.makes M.init (beq_iff_eq.mp M.fn) (codeAny_mono (F.run _ X.stack _ _ ⟨Value.ref (s.heap.objs.size + 1) :: us, []⟩ (Value.ref (s.heap.objs.size + 1) :: (us ++ ds)) _ _ E (hr.make C us [])
    (I2.env0.make C us []) (hb _ (Value.ref (s.heap.objs.size + 1) :: us) I2.kIn hl) r2 hq) fun r s' hq' => ?_))
  cases r with
  | error e => exact hx pins σ _ _ e s' I2 hq'
  | ok fl =>
    cases fl with
    | ret u =>
      obtain ⟨v, H', I3, rv, ev, q3⟩ := I2.after hq'
      subst ev
      exact ⟨rv, ⟨V.ref (s.heap.objs.size + 1), H', I3, rfl, q3⟩⟩
    | next => exact False.elim hq'
    | brk => exact False.elim hq'
    | cont => exact False.elim hq'
theorem pe_make (M : Mk X.K C f) (F : FnOk X.prog X.w X.K X.mg X.base CX k f fd ps sp) (hr : Room (k + 1) X.A) (hg : Gl X x) (hm : X.mg x = some (.ref C)) (hb : Binds X.K fd ps ds) (hd : Vals dvs ds) (hx : Passes CX X E)
    (ha : PA X (e :: es) t) (hdb : (x == ("__debug__" : Str)) = false := by decide) (he : starEach (e :: es) X.env = (false, eval e X.env) :: starEach es X.env := by rfl) (hpl : (backTo pos (starEach es X.env)).any (·.1) = false := by rfl) :
    PE X (.Call (.Name x p) (e :: es) [] pos) (tMake C sp dvs E t) := by
  intro pins s σ H Q I h
  refine wpAny_Call_Name_kw (ld_glob I hg hm ?_ hdb)
  refine PySem.W.callWith_K (h₀ := X.base) I.ok.mod.kin M.kp (thn (ha pos pins s σ H _ I h) fun us s1 ⟨vs, H1, I1, r, q⟩ => ⟨I1.kIn, ?_⟩) he hpl
  exact run_make M F hr hb hd hx I1 r q
end

/-! ### keywords -/
section
variable {X : Cx} {CX : CXT} {k : Nat} {f C : Addr} {fd : FuncData} {ps ks : List Str} {sp : Sp} {E : XK} {x m : Str} {p pos apos kpos : Pos} {e o : Expr} {es : List Expr} {kws : List Keyword} {te ta : TE} {t tk : TA} {nm : Option Str}
variable {g : List Value → List Value → List Value} {gV : List V → List V → List V}
end

/-! ### a def's body keeps its promise -/
/-- names: the parameters first -/
structure FnScope (N P : List Str) (sc : Scope) : Prop where
  kind : sc.kind = .function
  co : sc.isCoroutine = false
  gen : sc.isGenerator = false
  nd : N.Nodup
  pre : N.take P.length = P
  par : ∀ x ∈ P, sc.names.lookup x = some .local ∨ sc.names.lookup x = some .cell
  nofree : ∀ y ∈ sc.names, y.2 ≠ .free

theorem bindL_out {kindOf : Str → Option NameKind} {x : Str} : ∀ {binds : List (Str × Value)} {m : Str → Option Value}, (∀ v, (x, v) ∉ binds) → bindL kindOf binds m x = m x
  | [], _, _ => rfl
  | (n, v) :: r, m, h => by
    unfold bindL
    rw [bindL_out fun w hw => h w (List.mem_cons_of_mem _ hw)]
    split
    · have : x ≠ n := by rintro rfl; exact h v List.mem_cons_self
      simp [this]
    · rfl
theorem bindC_out {kindOf : Str → Option NameKind} {x : Str} : ∀ {binds : List (Str × Value)} {m : Str → Option Value}, (∀ v, (x, v) ∉ binds) → bindC kindOf binds m x = m x
  | [], _, _ => rfl
  | (n, v) :: r, m, h => by
    unfold bindC
    rw [bindC_out fun w hw => h w (List.mem_cons_of_mem _ hw)]
    split
    · rfl
    · have : x ≠ n := by rintro rfl; exact h v List.mem_cons_self
      simp [this]
theorem bindL_get {kindOf : Str → Option NameKind} {x : Str} {v : Value} : ∀ {P : List Str} {vs : List Value} {i : Nat} {m : Str → Option Value}, P.Nodup → P[i]? = some x → vs[i]? = some v → kindOf x = some .local →
    bindL kindOf (P.zip vs) m x = some v
  | [], _, _, _, _, h, _, _ => by simp at h
  | _ :: _, [], _, _, _, _, h, _ => by simp at h
  | p :: P, w :: vs, 0, m, nd, h1, h2, hk => by
    simp at h1 h2; subst h1; subst h2
    show bindL kindOf ((p, w) :: P.zip vs) m p = _
    unfold bindL
    rw [bindL_out fun v hv => (List.nodup_cons.mp nd).1 (List.of_mem_zip hv).1, if_pos hk]
    simp
  | p :: P, w :: vs, i + 1, m, nd, h1, h2, hk => by
    show bindL kindOf ((p, w) :: P.zip vs) m x = _
    unfold bindL
    exact bindL_get (i := i) (List.nodup_cons.mp nd).2 (by simpa using h1) (by simpa using h2) hk
theorem bindC_get {kindOf : Str → Option NameKind} {x : Str} {v : Value} : ∀ {P : List Str} {vs : List Value} {i : Nat} {m : Str → Option Value}, P.Nodup → P[i]? = some x → vs[i]? = some v → kindOf x ≠ some .local →
    bindC kindOf (P.zip vs) m x = some v
  | [], _, _, _, _, h, _, _ => by simp at h
  | _ :: _, [], _, _, _, _, h, _ => by simp at h
  | p :: P, w :: vs, 0, m, nd, h1, h2, hk => by
    simp at h1 h2; subst h1; subst h2
    show bindC kindOf ((p, w) :: P.zip vs) m p = _
    unfold bindC
    rw [bindC_out fun v hv => (List.nodup_cons.mp nd).1 (List.of_mem_zip hv).1, if_neg hk]
    simp
  | p :: P, w :: vs, i + 1, m, nd, h1, h2, hk => by
    show bindC kindOf ((p, w) :: P.zip vs) m x = _
    unfold bindC
    exact bindC_get (i := i) (List.nodup_cons.mp nd).2 (by simpa using h1) (by simpa using h2) hk

/-- the names' values at the entry -/
def start (N : List Str) (vs : List V) : St := vs.map some ++ List.replicate (N.length - vs.length) none

/-- the context of a def's body, at its entry; an exception leaves the frame, then lies as CX says -/
def cxOf (CX : CXT) (P : Program) (w : World) (K : PySem.W.Frag) (mg : Str → Option Value) (base : Heap) (N : List Str) (qual : Str) (scope : Scope) (f : Addr) (cd : Value) (A : Around) (outer : List Env) (s : Shared) (H : Hp) (E : XK) : Cx where
  prog := P
  w := w
  K := K
  mg := mg
  base := base
  A := A.deeper (envOfC qual scope s.heap.objs.size f cd)
  N := N
  s₀ := s
  H₀ := H
  env := envOfC qual scope s.heap.objs.size f cd
  outer := outer
  stack := envOfC qual scope s.heap.objs.size f cd :: outer
  ex := []
  calm := true
  fn := fun _ => true
  pn := []
  xe := fun e s' => wpAny (model P w) (A.deeper (envOfC qual scope s.heap.objs.size f cd)) (leaving (envOfC qual scope s.heap.objs.size f cd) e) (fun _ s'' => CX outer H s E e s'') (fun e' s'' => CX outer H s E e' s'') s'

theorem cell_has {sc : Scope} {n : Nat} {x : Str} (h : sc.names.lookup x = some .cell) : ∃ c, (cellsFrom n sc.names []).lookup x = some c := by
  have q := PySem.W.cellsFrom_some sc.names n [] (.inl h)
  exact Option.isSome_iff_exists.mp q

theorem inv_start {CX : CXT} {P : Program} {w : World} {K : PySem.W.Frag} {mg : Str → Option Value} {base : Heap} {N ps : List Str} {qual : Str} {scope : Scope} {f : Addr} {cd : Value} {A : Around} {outer : List Env} {s s1 : Shared} {H : Hp} {E : XK} {us : List Value} {vs : List V}
    (S : FnScope N ps scope) (hd : A.handled = none) (e0 : Env0 P w K mg base A outer s H) (hl : vs.length = ps.length) (r : Vals vs us)
    (x : InCallC s s.heap.objs.size (bindL (envOfC qual scope s.heap.objs.size f cd).kindOf (ps.zip us) fun _ => none) (cellsFrom (s.heap.objs.size + 1) scope.names []) (bindC (envOfC qual scope s.heap.objs.size f cd).kindOf (ps.zip us) fun _ => none) s1) :
    Inv (cxOf CX P w K mg base N qual scope f cd A outer s H E) [] (start N vs) H s1 := by
  have hpl : ps.length ≤ N.length := by have := congrArg List.length S.pre; rw [List.length_take] at this; omega
  obtain ⟨h1, tk, rfl, hk⟩ := x.done
  have noA : ∀ b : Addr, b ∉ (cxOf CX P w K mg base N qual scope f cd A outer s H E).ex := fun b z => absurd (show b ∈ ([] : List Addr) from z) (by simp)
  refine ⟨⟨e0.mod, S.kind, rfl, rfl, Nat.le_refl _, fun y z c h1 h2 => ?_, fun y hy => ?_, fun y c _ h => ?_, fun _ => hd, Around.frames_deeper e0.frames, .inr ⟨rfl, rfl⟩, fun b z => absurd z (noA b), e0.bs, e0.bsz, fun b _ _ => noA b, fun b z => absurd z (noA b), e0.funs, e0.frf⟩,
    rfl, e0.bare, Un.kept hk, ⟨_, x.toInCall.ns, fun i y v h1 h2 h3 => ?_⟩, fun y c h => ⟨_, x.cell y c h⟩, e0.hok.fresh (Nat.le_refl _), fun y c h => ?_, fun p hp => absurd (show p ∈ ([] : List (Addr × Obj)) from hp) (by simp), e0.hok.kept hk, ?_⟩
  · exact name_of_addr x.apart (PySem.mem_of_lookup h1) (PySem.mem_of_lookup h2)
  · have hy : scope.names.lookup y = some .cell ∨ scope.names.lookup y = some .free := hy
    rcases hy with hy | hy
    · exact cell_has hy
    · exact absurd rfl (S.nofree _ (PySem.mem_of_lookup hy))
  · exact Nat.le_of_lt (x.above y c (PySem.mem_of_lookup h))
  · have hi : i < vs.length := by
      unfold start at h2
      by_cases hi : i < vs.length
      · exact hi
      · rw [List.getElem?_append_right (by simpa using hi)] at h2
        rw [List.getElem?_replicate] at h2
        split at h2 <;> cases h2
    have ha : vs[i]? = some v := by
      unfold start at h2
      rw [List.getElem?_append_left (by simpa using hi), List.getElem?_map] at h2
      cases e : vs[i]? with
      | none => rw [e] at h2; cases h2
      | some a => rw [e] at h2; cases h2; rfl
    obtain ⟨u, hu, rv⟩ := r.get ha
    have hp : ps[i]? = some y := by
      rw [← S.pre, List.getElem?_take_of_lt (by omega)]; exact h1
    have ndP : ps.Nodup := by rw [← S.pre]; exact S.nd.sublist (List.take_sublist _ _)
    refine ⟨u, rv, ?_⟩
    rcases S.par y (List.mem_of_getElem? hp) with k | k
    · exact .inl ⟨k, bindL_get ndP hp hu k⟩
    · obtain ⟨c, e⟩ := cell_has (n := s.heap.objs.size + 1) k
      refine .inr ⟨.inl k, c, e, ?_⟩
      have q := x.cell y c e
      rw [bindC_get ndP hp hu (by show scope.names.lookup y ≠ _; rw [k]; decide)] at q
      exact q
  · exact e0.hok.fresh (Nat.le_of_lt (x.above y c (PySem.mem_of_lookup h)))
  · unfold start
    show _ = N.length
    rw [List.length_append, List.length_map, List.length_replicate]
    omega

/-- THE RULE: a def (or a method) of the text, by its body. The body's reading t is chosen for each entry; it is run at the parameters' values -/
theorem fn_of {CX : CXT} {P : Program} {w : World} {K : PySem.W.Frag} {mg : Str → Option Value} {base : Heap} {k : Nat} {f : Addr} {name qual : Str} {params : Arguments} {body : List Stmt} {scope : Scope} {dV kV doc pm cdv ct oc : Value} {an od : Option Addr}
    {osl : Array (Option Value)} {N ps : List Str} {sp : Sp} (lk : K.lookup f = some ⟨oc, od, .func (PySem.W.fnOf name qual params body scope dV kV doc pm an cdv ct), osl⟩) (hcd : PySem.W.codeIn K cdv qual = true) (S : FnScope N ps scope)
    (len : ∀ vs H Q E, sp vs H Q E → vs.length = ps.length)
    (hbody : ∀ (A : Around) (outer : List Env) (s : Shared) (H : Hp) (vs : List V) (Q : VK) (E : XK), Room k (A.deeper (envOfC qual scope s.heap.objs.size f cdv)) → sp vs H Q E →
      ∃ t, PSs (cxOf CX P w K mg base N qual scope f cdv A outer s H E) body t ∧ t { nx := fun _ H' => Q .non H', rt := Q } (start N vs) H) :
    FnOk P w K mg base CX (k + 1) f (PySem.W.fnOf name qual params body scope dV kV doc pm an cdv ct) ps sp := by
  refine ⟨len, fun A outer s H args us vs Q E hr e0 hb r hsp => ?_⟩
  have hl := len _ _ _ _ hsp
  have KX : K.In s.heap := e0.mod.kin.keeps fun b o e => (e0.bs b o e).1
  have lim : s.heap.NoLimit := e0.mod.nolimit.keeps fun b o e => (e0.bs b o e).1
  have hkind : ∀ y ∈ ps.zip us, scope.names.lookup y.1 = some .local ∨ (scope.names.lookup y.1 = some .cell ∧ ((cellsFrom (s.heap.objs.size + 1) scope.names []).lookup y.1).isSome = true) := fun ⟨n, v⟩ hy => by
    rcases S.par n (List.of_mem_zip hy).1 with q | q
    · exact .inl q
    · exact .inr ⟨q, PySem.W.cellsFrom_some _ _ _ (.inl q)⟩
  refine codeAny_call_function hr.depth (KX _ _ lk) rfl S.co S.gen rfl (PySem.W.codeRec_of KX hcd) (hb _ _ _ _ ?_)
  refine wpAny_newFunctionEnv_cells S.kind hkind fun env he s1 x => ?_
  subst he
  refine ⟨lim.keeps x.toInCall.keep, codeAny_func ?_⟩
  obtain ⟨t, ht, hq⟩ := hbody A outer s H vs Q E (hr.deeper _) hsp
  have I : Inv (cxOf CX P w K mg base N qual scope f cdv A outer s H E) [] (start N vs) H s1 := inv_start S hr.hd e0 hl r x
  refine wpAny_mono (ht [] s1 (start N vs) H _ I hq) (fun fl s' hs => ?_) fun e s' hs => hs
  have fin : ∀ {σ' : St} {H' : Hp} {v : V} {u : Value}, Inv (cxOf CX P w K mg base N qual scope f cdv A outer s H E) [] σ' H' s' → RelV v u → Q v H' → CE outer P w H s Q u s' :=
    fun {σ' H' v u} J rv q => ⟨v, H', J.os, J.bare, J.base, J.hok, rv, q⟩
  cases fl with
  | ret u =>
    obtain ⟨v, σ', H', J, rv, q⟩ := hs
    exact fin J rv q
  | next =>
    obtain ⟨σ', H', J, q⟩ := hs
    exact fin (v := V.non) (u := Value.none) J rfl q
  | brk =>
    obtain ⟨_, _, _, q⟩ := hs
    exact False.elim q
  | cont =>
    obtain ⟨_, _, _, q⟩ := hs
    exact False.elim q
end L2

namespace L2
open PySem PySem.Spec PyProof.Rows
section
variable {X : Cx} {x : Str} {p pos : Pos} {e : Expr} {es : List Expr} {t : TA} {id T : String} {r : List V → Hp → VK → Prop}

def tCB (r : List V → Hp → VK → Prop) (t : TA) : TE := fun σ H Q => t σ H fun vs H1 => r vs H1 Q
/-- f(e, ..), f a built-in function -/
theorem pe_callB (hc : CallR X (.builtin id) r) (hg : Gl X x) (hm : X.mg x = none) (hv : bootBuiltins x = some (.builtin id)) (ha : PA X (e :: es) t) (hn : x ≠ "__name__" := by decide) (hdb : (x == ("__debug__" : Str)) = false := by decide)
    (he : starEach (e :: es) X.env = (false, eval e X.env) :: starEach es X.env := by rfl) (hpl : (backTo pos (starEach es X.env)).any (·.1) = false := by rfl) : PE X (.Call (.Name x p) (e :: es) [] pos) (tCB r t) := by
  intro pins s σ H Q I h
  refine wpAny_Call_Name_kw (ld_blt I hg hm hv ?_ hn hdb)
  exact PyProof.Rows.callWith_builtin1 (thn (ha pos pins s σ H _ I h) fun us s1 ⟨vs, H1, I1, r1, q1⟩ => hc pins s1 σ H1 vs us Q I1 r1 q1) he hpl
/-- T(e, ..), T a built-in type -/
theorem pe_callTy (hc : CallR X (.type T) r) (hg : Gl X x) (hm : X.mg x = none) (hv : bootBuiltins x = some (.type T)) (ha : PA X (e :: es) t) (hn : x ≠ "__name__" := by decide) (hdb : (x == ("__debug__" : Str)) = false := by decide)
    (he : starEach (e :: es) X.env = (false, eval e X.env) :: starEach es X.env := by rfl) (hpl : (backTo pos (starEach es X.env)).any (·.1) = false := by rfl) : PE X (.Call (.Name x p) (e :: es) [] pos) (tCB r t) := by
  intro pins s σ H Q I h
  refine wpAny_Call_Name_kw (ld_blt I hg hm hv ?_ hn hdb)
  exact PyProof.Rows.callWith_type1 (thn (ha pos pins s σ H _ I h) fun us s1 ⟨vs, H1, I1, r1, q1⟩ => hc pins s1 σ H1 vs us Q I1 r1 q1) he hpl
end
end L2

namespace HT
open PySem PyProof.Rows

/-- t < u of tuples of ints -/
def lexLt : List Int → List Int → Bool
  | [], [] => false
  | [], _ :: _ => true
  | _ :: _, [] => false
  | x :: xs, y :: ys => if x = y then lexLt xs ys else decide (x < y)
theorem lexLt_cons (x y : Int) (xs ys : List Int) : lexLt (x :: xs) (y :: ys) = if x = y then lexLt xs ys else decide (x < y) := rfl
theorem lexLt_nil_nil : lexLt [] [] = false := rfl
theorem lexLt_nil_cons (y : Int) (ys : List Int) : lexLt [] (y :: ys) = true := rfl
theorem lexLt_cons_nil (x : Int) (xs : List Int) : lexLt (x :: xs) [] = false := rfl

theorem eqAt_int (A : Around) (s : Shared) (a : Int) (t : Tok) (c : Int) (u : Tok) : ∃ e, SeqAt.EqAt A s (.int a t) (.int c u) e ∧ (e = true ↔ a = c) :=
  ⟨(a == c), SeqAt.EqAt.int_int a t c u, by simp⟩
theorem rcLt_int (A : Around) (s : Shared) (a : Int) (t : Tok) (c : Int) (u : Tok) (prog : Program) (w : World) (E : Value → Shared → Prop) (Q : Value → Shared → Prop) (h : Q (.bool (decide (a < c))) s) :
    wpAny (model prog w) A (richCompare .Lt (.int a t) (.int c u)) Q E s :=
  (PyProof.Rows.lt_int h : wpAny (model prog w) A (compareOp .Lt (.int a t) (.int c u)) Q E s)

section
open PySem.SeqAt
open PySem.AutoSeq1 (wpAny_loadPart')
open PySem.MeetsSeq PySem.MeetsSeq2 PySem.MeetsSeq3

theorem tuple_lt_ints (l b : Addr) (items items2 : Array Value) (n n2 : Nat) (dd dd2 : Option Addr) (sl sl2 : Array (Option Value)) (ns ms : List Int) (hi : IntsAre items.toList ns) (hj : IntsAre items2.toList ms) :
    Meets (Builtin.«tuple.__lt__» ⟨[.ref l, .ref b], []⟩)
      (fun _ R s => s.heap.get? l = some { cls := .type "tuple", dict := dd, data := .seq items n, slots := sl } ∧ s.heap.get? b = some { cls := .type "tuple", dict := dd2, data := .seq items2 n2, slots := sl2 } ∧
        R (.ok (.ret (.bool (lexLt ns ms)))) s) :=
  .of_wp fun prog w A R s h => by
    obtain ⟨hp, g, d, tk, os⟩ := s; obtain ⟨hl, hb, h⟩ := h
    have f2 := AutoSeq1.sub_tuple_tuple
    have z1 : items.size = ns.length := by rw [← hi.length]; simp
    have z2 : items2.size = ms.length := by rw [← hj.length]; simp
    wp_walk using wpAny_loadPart' hl, wpAny_loadPart' hb, wpAny_forIn_list _ (fun rest b s' => b.1 = none ∧ s' = ⟨hp, g, d, tk, os⟩ ∧ ∃ (vs ws : List Value) (ns' ms' : List Int), rest = vs.zip ws ∧
      IntsAre vs ns' ∧ IntsAre ws ms' ∧ ns'.length + items2.size = ms'.length + items.size ∧ R (.ok (.ret (.bool (lexLt ns' ms')))) ⟨hp, g, d, tk, os⟩) _
    case turn =>
      rintro ⟨y, x⟩ rest b s' ⟨hb', rfl, vs, ws, ns', ms', hz, hvi, hwi, hlen, hR⟩
      cases hvi with
      | nil => rw [List.zip_nil_left] at hz; cases hz
      | cons a t hvi' =>
        cases hwi with
        | nil => rw [List.zip_nil_right] at hz; cases hz
        | cons c u hwi' =>
          rw [List.zip_cons_cons] at hz
          injection hz with hyx hrest
          injection hyx with hy hx
          subst hy hx
          rw [lexLt_cons] at hR
          simp only [List.length_cons] at hlen
          obtain ⟨e, he, hiff⟩ := eqAt_int A.in1 ⟨hp, g, d, tk, os⟩ a t c u
          refine wpAny_bind (he prog w _ _ ?_)
          cases e with
          | true =>
            rw [if_pos (hiff.mp rfl)] at hR
            wp_walk
            exact ⟨rfl, rfl, _, _, _, _, hrest, hvi', hwi', by omega, hR⟩
          | false =>
            rw [if_neg (fun q => absurd (hiff.mpr q) Bool.false_ne_true)] at hR
            have hri := rcLt_int A.in1 ⟨hp, g, d, tk, os⟩ a t c u prog w
            wp_walk using hri
            exact ⟨_, rfl, by simpa using hR⟩
    case fin =>
      rintro ⟨b1, b2⟩ s' ⟨hb', rfl, vs, ws, ns', ms', hz, hvi, hwi, hlen, hR⟩
      simp only at hb'
      subst hb'
      have hv : lexLt ns' ms' = decide (items.size < items2.size) := by
        cases hvi with
        | nil =>
          cases hwi with
          | nil =>
            simp only [List.length_nil] at hlen
            rw [lexLt_nil_nil]
            exact (decide_eq_false (by omega)).symm
          | cons c u hw =>
            simp only [List.length_nil, List.length_cons] at hlen
            rw [lexLt_nil_cons]
            exact (decide_eq_true (by omega)).symm
        | cons a t hv =>
          cases hwi with
          | nil =>
            simp only [List.length_nil, List.length_cons] at hlen
            rw [lexLt_cons_nil]
            exact (decide_eq_false (by omega)).symm
          | cons c u hw =>
            rw [List.zip_cons_cons] at hz
            cases hz
      rw [hv] at hR
      wp_walk
      exact ⟨_, rfl, by simpa [Builtin.Tuple.tupleCompareSizes] using hR⟩
    case h =>
      exact ⟨rfl, rfl, items.toList, items2.toList, ns, ms, rfl, hi, hj, by omega, h⟩
end

section
variable {prog : Program} {w : World} {A : Around} {E : Value → Shared → Prop} {s : Shared}

theorem lt_tupInts {l b : Addr} {items items2 : Array Value} {ns ms : List Int} {Q : Value → Shared → Prop} (hl : IsTup s.heap l items) (hb : IsTup s.heap b items2) (hi : IntsAre items.toList ns) (hj : IntsAre items2.toList ms)
    (hu : A.units < cLine) (h : Q (.bool (lexLt ns ms)) s) : wpAny (model prog w) A (compareOp .Lt (.ref l) (.ref b)) Q E s := by
  obtain ⟨⟨cls, dd, data, sl⟩, ho, hc, n, hd⟩ := id hl
  obtain ⟨⟨cls2, dd2, data2, sl2⟩, ho2, hc2, n2, hd2⟩ := id hb
  simp only at hc hd hc2 hd2
  subst hc hd hc2 hd2
  exact richCompare_meets_room (op := .Lt) ⟨_, ho, rfl⟩ ⟨_, ho2, rfl⟩ PySem.F.slot_tuple_lt PySem.F.entry_tuple_lt (PySem.F.args_tuple_lt_2 _ _) (tuple_lt_ints l b items items2 n n2 dd dd2 sl sl2 ns ms hi hj)
    ⟨ho, ho2, show Value.bool (lexLt ns ms) ≠ Value.notImplemented ∧ Q (.bool (lexLt ns ms)) s from ⟨(fun x => nomatch x), h⟩⟩ hu

/-! ### t[a:b], not the whole -/
end
end HT

namespace L2
open PySem PySem.Spec PyProof.Rows

/-! ### the parts of a slice -/
abbrev TO := St → Hp → (Option Int → Hp → Prop) → Prop
theorem intsAre_of {ns : List Int} : ∀ {us : List Value}, Vals (ns.map V.int) us → IntsAre us ns := by
  induction ns with
  | nil => intro us r; rw [List.map_nil] at r; cases r; exact .nil
  | cons n ns ih =>
    intro us r
    rw [List.map_cons] at r
    cases r with
    | cons r1 r2 =>
      obtain ⟨t, e⟩ := r1
      subst e
      exact .cons n t (ih r2)

section
variable {X : Cx} {e : Expr} {te : TE} {lo hi : Option Expr} {tl th : TO} {pos p2 : Pos}

/-- what a slice of a value is, by values: the slice object stands at sl -/
def SlR (X : Cx) (r : V → Option Int → Option Int → Hp → VK → Prop) : Prop :=
  ∀ (pins : List (Addr × Obj)) (s : Shared) (σ : St) (H : Hp) (x : V) (v vl vu : Value) (lo hi : Option Int) (sl : Addr) (Q : VK), Inv X pins σ H s → RelV x v → s.heap.IsSliceOf sl vl vu .none → IsPart vl lo → IsPart vu hi → r x lo hi H Q →
    ∃ T id, typeLookup (.type T) "__getitem__" = pure (some (.builtin id)) ∧ s.TypeIs v T ∧ wpAny (model X.prog X.w) X.A (getItem v (.ref sl)) (EP X pins σ Q) X.xe s
theorem SlR.or {r r' : V → Option Int → Option Int → Hp → VK → Prop} (h : SlR X r) (h' : SlR X r') : SlR X (fun x lo hi H Q => r x lo hi H Q ∨ r' x lo hi H Q) := by
  intro pins s σ H x v vl vu lo hi sl Q I rx hs pl pu q
  rcases q with q | q
  · exact h pins s σ H x v vl vu lo hi sl Q I rx hs pl pu q
  · exact h' pins s σ H x v vl vu lo hi sl Q I rx hs pl pu q
/-! ### t < u, t + u -/
def rLtT (K : PySem.W.Frag) : R2 := fun x y H Q => ∃ a b ns ms, x = .ref a ∧ y = .ref b ∧ SqT K H a (ns.map V.int) ∧ SqT K H b (ms.map V.int) ∧ Q (.bl (HT.lexLt ns ms)) H
theorem op_ltT (hu : X.A.units < cLine) : OpR X (compareOp .Lt) (rLtT X.K) := by
  intro pins s σ H x y v u Q I rx ry h
  obtain ⟨a, b, ns, ms, rfl, rfl, ha, hb, q⟩ := h
  cases rx
  cases ry
  obtain ⟨its, r1, p1, _⟩ := I.tuple ha
  obtain ⟨its2, r2, p2, _⟩ := I.tuple hb
  have i1 : IntsAre its.toArray.toList ns := intsAre_of r1
  have i2 : IntsAre its2.toArray.toList ms := intsAre_of r2
  exact HT.lt_tupInts p1 p2 i1 i2 hu ⟨.bl (HT.lexLt ns ms), H, I, rfl, q⟩
end
end L2

namespace L2
open PySem PySem.Spec PyProof.Rows

/-! ### places -/
/-- the place that an index of any sign means -/
def ixN (n : Nat) (i : Int) : Option Nat := if 0 ≤ i then (if i < n then some i.toNat else none) else if -(n : Int) ≤ i then some (i + n).toNat else none
def atI {α : Type} (xs : List α) (i : Int) : Option α := (ixN xs.length i).bind fun j => xs[j]?
theorem ixN_seq {n : Nat} {i : Int} {j : Nat} (h : ixN n i = some j) : seqIndex? i n = some j ∧ j < n ∧ -(n : Int) ≤ i ∧ i < n := by
  unfold ixN at h
  by_cases h0 : 0 ≤ i
  · rw [if_pos h0] at h
    by_cases h1 : i < n
    · rw [if_pos h1] at h
      have e : i.toNat = j := Option.some.inj h
      exact ⟨by rw [seqIndex_of h0 h1, e], by omega, by omega, h1⟩
    · rw [if_neg h1] at h; cases h
  · rw [if_neg h0] at h
    by_cases h1 : -(n : Int) ≤ i
    · rw [if_pos h1] at h
      have e : (i + n).toNat = j := Option.some.inj h
      exact ⟨by rw [seqIndex_neg (by omega) h1, e], by omega, h1, by omega⟩
    · rw [if_neg h1] at h; cases h
theorem atI_get {α : Type} {xs : List α} {i : Int} {v : α} (h : atI xs i = some v) : ∃ j, seqIndex? i xs.length = some j ∧ xs[j]? = some v ∧ j < xs.length ∧ -(xs.length : Int) ≤ i ∧ i < xs.length := by
  unfold atI at h
  cases e : ixN xs.length i with
  | none => rw [e] at h; cases h
  | some j =>
    rw [e] at h
    obtain ⟨h1, h2, h3, h4⟩ := ixN_seq e
    exact ⟨j, h1, h, h2, h3, h4⟩
theorem atI_nat {α : Type} {xs : List α} {j : Nat} {v : α} (h : xs[j]? = some v) : atI xs (j : Int) = some v := by
  have hj : j < xs.length := (List.getElem?_eq_some_iff.mp h).1
  have e : ixN xs.length (j : Int) = some j := by
    unfold ixN
    rw [if_pos (by omega), if_pos (by omega)]; simp
  unfold atI; rw [e]; exact h
/-! ### what may be subscripted -/
/-- what stands as an index of a plain subscript -/
def PlainIx (b : Expr) : Prop := ∀ o i, subscripted b false o i = operate [o, i] (getItem o i)
/-- a subscript by values -/
def IxR (X : Cx) (r : R2) : Prop :=
  ∀ (value slice : Expr) (pins : List (Addr × Obj)) (s : Shared) (σ : St) (H : Hp) (x y : V) (v u : Value) (Q : VK), Inv X pins σ H s → RelV x v → RelV y u → r x y H Q →
    subscripted slice false v u = operate [v, u] (getItem v u) → wpAny (model X.prog X.w) X.A (subscriptTail value slice v u) (EP X pins σ Q) X.xe s
/-- a call of a builtin's method by values: the receiver, the arguments -/
def MtR (X : Cx) (id : String) (r : V → List V → Hp → VK → Prop) : Prop :=
  ∀ (pins : List (Addr × Obj)) (s : Shared) (σ : St) (H : Hp) (x : V) (xs : List V) (v : Value) (us : List Value) (Q : VK), Inv X pins σ H s → RelV x v → Vals xs us → r x xs H Q →
    wpAny (model X.prog X.w) X.A (call (.builtin id) (v :: us)) (EP X pins σ Q) X.xe s
section
variable {X : Cx} {a b : Expr} {ta tb : TE} {pos : Pos}
theorem IxR.or {r r' : R2} (h : IxR X r) (h' : IxR X r') : IxR X (fun x y H Q => r x y H Q ∨ r' x y H Q) := by
  intro value slice pins s σ H x y v u Q I rx ry q hs
  rcases q with q | q
  · exact h value slice pins s σ H x y v u Q I rx ry q hs
  · exact h' value slice pins s σ H x y v u Q I rx ry q hs
theorem MtR.or {id : String} {r r' : V → List V → Hp → VK → Prop} (h : MtR X id r) (h' : MtR X id r') : MtR X id (fun x xs H Q => r x xs H Q ∨ r' x xs H Q) := by
  intro pins s σ H x xs v us Q I rx rs q
  rcases q with q | q
  · exact h pins s σ H x xs v us Q I rx rs q
  · exact h' pins s σ H x xs v us Q I rx rs q
/-- a[b] -/
theorem pe_ix {r : R2} (hr : IxR X r) (ha : PE X a ta) (hb : PE X b tb) (hs : PlainIx b) : PE X (.Subscript a b pos) (tOp r ta tb) := by
  intro pins s σ H Q I h
  exact Subscript_ (binT ha hb I h fun v u s2 x y H2 I2 rx ry q => hr a b pins s2 σ H2 x y v u Q I2 rx ry q (hs _ _))

def rIxL (K : PySem.W.Frag) : R2 := fun x y H Q => ∃ p xs i v, x = .ref p ∧ y = .int i ∧ SqL K H p xs ∧ atI xs i = some v ∧ Q v H
def rIxT (K : PySem.W.Frag) : R2 := fun x y H Q => ∃ p xs i v, x = .ref p ∧ y = .int i ∧ SqT K H p xs ∧ atI xs i = some v ∧ Q v H
theorem ix_list : IxR X (rIxL X.K) := by
  intro value slice pins s σ H x y v u Q I rx ry h hs
  obtain ⟨p, xs, i, z, rfl, rfl, hq, he, q⟩ := h
  cases rx
  obtain ⟨t, rfl⟩ := ry
  obtain ⟨its, r, pl, hz⟩ := I.list hq
  obtain ⟨j, h1, h2, h3, h4, h5⟩ := atI_get he
  obtain ⟨w, ew, rw'⟩ := r.get h2
  have hl := r.length
  have hn := line63
  have fin : EP X pins σ Q w s := ⟨z, H, I, rw', q⟩
  by_cases h0 : 0 ≤ i
  · have hj : i.toNat = j := by
      rw [seqIndex_of h0 h5] at h1
      exact Option.some.inj h1
    exact item_listR pl.isList h0 (by omega) (by rw [hj]; simpa using ew) fin hs
  · have hj : (i + (its.toArray.size : Int)).toNat = j := by
      rw [seqIndex_neg (by omega) h4] at h1
      rw [List.size_toArray, ← hl]
      exact Option.some.inj h1
    exact subscriptTail_builtinR (x := w) pl.isList.typeIs slot_list_getitem.lookup
      (wpAny_getItem_list_neg (Q := fun r s' => r = w ∧ EP X pins σ Q r s') pl.isList (by omega) (by rw [List.size_toArray] <;> omega) (by omega) (by rw [hj]; simpa using ew) ⟨rfl, fin⟩) hs
theorem ix_tup : IxR X (rIxT X.K) := by
  intro value slice pins s σ H x y v u Q I rx ry h hs
  obtain ⟨p, xs, i, z, rfl, rfl, hq, he, q⟩ := h
  cases rx
  obtain ⟨t, rfl⟩ := ry
  obtain ⟨its, r, pl, hz⟩ := I.tuple hq
  obtain ⟨j, h1, h2, h3, h4, h5⟩ := atI_get he
  obtain ⟨w, ew, rw'⟩ := r.get h2
  have hl := r.length
  have hn := line63
  have fin : EP X pins σ Q w s := ⟨z, H, I, rw', q⟩
  exact subscriptTail_builtinR (x := w) pl.typeIs slot_tuple_getitem.lookup
    (getItem_tuple (j := j) (Q := fun r s' => r = w ∧ EP X pins σ Q r s') pl (by omega) (by omega) (by rw [List.size_toArray, ← hl]; exact h1) (by simpa using ew) ⟨rfl, fin⟩) hs
/-! ### xs[i] = v, any sign -/
/-- the list's object behind a store -/
theorem mapSeq_set (its : List Value) (n j : Nat) (u : Value) : Obj.mapSeq (·.setIfInBounds j u) { cls := .type "list", data := .seq its.toArray n } = { cls := .type "list", data := .seq (its.set j u).toArray n } := by
  simp [Obj.mapSeq]
theorem Inv.lst {pins : List (Addr × Obj)} {σ : St} {H : Hp} {s : Shared} {p : Addr} {xs : List V} (I : Inv X pins σ H s) (h : H p = some (.lst xs)) :
    ∃ (its : List Value) (n : Nat), Vals xs its ∧ s.heap.get? p = some { cls := .type "list", data := .seq its.toArray n } ∧ xs.length ≤ sizeLine := by
  obtain ⟨z, its, n, r, e⟩ := I.hok p _ h
  exact ⟨its, n, r, e, z⟩
/-- the list at p is written by an update of its object -/
theorem Inv.lstUpd {pins : List (Addr × Obj)} {σ : St} {H : Hp} {s : Shared} {p : Addr} {xs ys : List V} {its its' : List Value} {n n' : Nat} {f : Obj → Obj} (I : Inv X pins σ H s) (h : H p = some (.lst xs))
    (ho : s.heap.get? p = some { cls := .type "list", data := .seq its.toArray n }) (hf : f { cls := .type "list", data := .seq its.toArray n } = { cls := .type "list", data := .seq its'.toArray n' }) (r : Vals ys its') (hz : ys.length ≤ sizeLine) (t : Nat) :
    Inv X pins σ (upd H p (.lst ys)) { s with heap := s.heap.update p f, toks := t } := by
  have e : (s.heap.update p f).get? p = some { cls := .type "list", data := .seq its'.toArray n' } := by
    rw [Heap.get?_update_self f ho (by rw [hf] <;> rfl), hf]
  refine I.write (x := p) (e := p) (by rw [h]; trivial) (.inl rfl) (fun b u hb q => (Heap.get?_update_other _ _ (Ne.symm hb)).trans q) ⟨_, e⟩ ?_
  exact ⟨hz, its', n', r, e⟩
def rSetL : V → V → V → Hp → (Hp → Prop) → Prop := fun o i v H Q => ∃ p xs k j, o = .ref p ∧ i = .int k ∧ H p = some (.lst xs) ∧ ixN xs.length k = some j ∧ Q (upd H p (.lst (xs.set j v)))
theorem set_list : PSet X rSetL := by
  intro pins s σ H o i v ov iv u Q I ro ri rv h
  obtain ⟨p, xs, k, j, rfl, rfl, hp, hj, q⟩ := h
  cases ro
  obtain ⟨t, rfl⟩ := ri
  obtain ⟨its, n, r, ho, hz⟩ := I.lst hp
  obtain ⟨h1, h2, h3, h4⟩ := ixN_seq hj
  have hl := r.length
  have hn := line63
  have I' : Inv X pins σ (upd H p (.lst (xs.set j v))) { s with heap := s.heap.update p (Obj.mapSeq (·.setIfInBounds j u)) } :=
    I.lstUpd hp ho (mapSeq_set its n j u) (r.set rv j) (by rw [List.length_set]; exact hz) s.toks
  by_cases h0 : 0 ≤ k
  · have hk : k.toNat = j := by
      rw [seqIndex_of h0 h4] at h1
      exact Option.some.inj h1
    exact PySem.W.ki_setAt ho h0 (by omega) (by rw [List.size_toArray, ← hl]; exact h4) (by rw [hk]; exact ⟨_, I', q⟩)
  · have hk : (k + (its.toArray.size : Int)).toNat = j := by
      rw [seqIndex_neg (by omega) h3] at h1
      rw [List.size_toArray, ← hl]
      exact Option.some.inj h1
    exact PySem.W.ki_setBack ho (by omega) (by rw [List.size_toArray, ← hl]; exact h3) (by omega) (by rw [hk]; exact ⟨_, I', q⟩)

/-! ### slices -/
/-! ### in, not in: flat items -/
def flatV : V → Bool
  | .non => true
  | .bl _ => true
  | .int _ => true
  | .str _ => true
  | _ => false
/-- == of flat values -/
def eqV : V → V → Bool
  | .non, .non => true
  | .bl a, .bl b => a == b
  | .bl a, .int b => (if a then 1 else 0) == b
  | .int a, .bl b => a == (if b then 1 else 0)
  | .int a, .int b => a == b
  | .str a, .str b => a == b
  | _, _ => false
theorem eqAt_V {A : Around} {s : Shared} {y x : V} {u v : Value} (ry : RelV y u) (rx : RelV x v) (fy : flatV y = true) (fx : flatV x = true) : SeqAt.EqAt A s u v (eqV y x) := by
  cases y with
  | non =>
    cases ry
    cases x with
    | non => cases rx; exact SeqAt.EqAt.same _
    | bl b => cases rx; exact SeqAt.EqAt.none_bool b
    | int b => obtain ⟨t, rfl⟩ := rx; exact SeqAt.EqAt.none_int b t
    | str b => obtain ⟨t, rfl⟩ := rx; exact SeqAt.EqAt.none_str b t
    | _ => exact absurd (show false = true from fx) Bool.false_ne_true
  | bl a =>
    cases ry
    cases x with
    | non => cases rx; exact SeqAt.EqAt.bool_none a
    | bl b => cases rx; exact SeqAt.EqAt.bool_bool a b
    | int b => obtain ⟨t, rfl⟩ := rx; exact SeqAt.EqAt.bool_int a b t
    | str b => obtain ⟨t, rfl⟩ := rx; exact SeqAt.EqAt.bool_str a b t
    | _ => exact absurd (show false = true from fx) Bool.false_ne_true
  | int a =>
    obtain ⟨t', rfl⟩ := ry
    cases x with
    | non => cases rx; exact SeqAt.EqAt.int_none a t'
    | bl b => cases rx; exact SeqAt.EqAt.int_bool a t' b
    | int b => obtain ⟨t, rfl⟩ := rx; exact SeqAt.EqAt.int_int a t' b t
    | str b => obtain ⟨t, rfl⟩ := rx; exact SeqAt.EqAt.int_str a t' b t
    | _ => exact absurd (show false = true from fx) Bool.false_ne_true
  | str a =>
    obtain ⟨t', rfl⟩ := ry
    cases x with
    | non => cases rx; exact SeqAt.EqAt.str_none a t'
    | bl b => cases rx; exact SeqAt.EqAt.str_bool a t' b
    | int b => obtain ⟨t, rfl⟩ := rx; exact SeqAt.EqAt.str_int a t' b t
    | str b => obtain ⟨t, rfl⟩ := rx; exact SeqAt.EqAt.str_str a t' b t
    | _ => exact absurd (show false = true from fx) Bool.false_ne_true
  | _ => exact absurd (show false = true from fy) Bool.false_ne_true
/-! ### len, list(x), tuple(x) of any list or tuple that is read -/
theorem call_len_seq : CallR X (.builtin "len") (fun xs H Q => ∃ p ys, xs = [.ref p] ∧ (SqL X.K H p ys ∨ SqT X.K H p ys) ∧ Q (.int ys.length) H) := by
  intro pins s σ H xs us Q I r h
  obtain ⟨p, ys, rfl, hq, q⟩ := h
  obtain ⟨u, rfl, rx⟩ := vals1 r
  cases rx
  have hn := line63
  rcases hq with hq | hq
  · obtain ⟨its, r', pl, hz⟩ := I.list hq
    have hlen := r'.length
    exact Calls.call_len_list pl.isList (by simp only [List.size_toArray] <;> omega) ⟨.int ys.length, H, I.tok _, ⟨s.toks + 1, by rw [List.size_toArray, hlen]⟩, q⟩
  · obtain ⟨its, r', pl, hz⟩ := I.tuple hq
    have hlen := r'.length
    exact len_tuple pl (by simp only [List.size_toArray] <;> omega) ⟨.int ys.length, H, I.tok _, ⟨s.toks + 1, by rw [List.size_toArray, hlen]⟩, q⟩
theorem CallR.or {f : Value} {r r' : List V → Hp → VK → Prop} (h : CallR X f r) (h' : CallR X f r') : CallR X f (fun xs H Q => r xs H Q ∨ r' xs H Q) := by
  intro pins s σ H xs us Q I rs q
  rcases q with q | q
  · exact h pins s σ H xs us Q I rs q
  · exact h' pins s σ H xs us Q I rs q
/-! ### the call of a builtin's method: o.m(..) -/
/-- the value is of that builtin type -/
def tyV (K : PySem.W.Frag) (T : String) (x : V) (H : Hp) : Prop := match x with
  | .str _ => T = "str"
  | .int _ => T = "int"
  | .ref p => (T = "list" ∧ ∃ xs, SqL K H p xs) ∨ (T = "tuple" ∧ ∃ o, K.lookup p = some o ∧ o.cls = .type "tuple" ∧ o.dict = none) ∨
      (T = "dict" ∧ ((∃ kvs, H p = some (.dK kvs)) ∨ ∃ kvs, H p = some (.dT kvs))) ∨ (T = "set" ∧ ∃ S n, H p = some (.set S n))
  | _ => False
theorem tyV_is {pins : List (Addr × Obj)} {σ : St} {H : Hp} {s : Shared} {T : String} {x : V} {v : Value} (I : Inv X pins σ H s) (r : RelV x v) (ty : tyV X.K T x H) :
    s.TypeIs v T ∧ ∀ a, v = .ref a → ∃ ob, s.heap.get? a = some ob ∧ ob.dict = none := by
  cases x with
  | str z =>
    obtain ⟨t, rfl⟩ := r
    cases (show T = "str" from ty)
    exact ⟨typeIs_str s z t, fun _ e => nomatch e⟩
  | int i =>
    obtain ⟨t, rfl⟩ := r
    cases (show T = "int" from ty)
    exact ⟨typeIs_int s i t, fun _ e => nomatch e⟩
  | ref p =>
    cases r
    rcases ty with ⟨rfl, xs, hq⟩ | ⟨rfl, o, hk, hc, hd⟩ | ⟨rfl, hk⟩ | ⟨rfl, S, n, hk⟩
    · obtain ⟨its, _, pl, _⟩ := I.list hq
      refine ⟨pl.isList.typeIs, fun a e => ?_⟩
      cases e
      obtain ⟨o, n, e, c, hd, _⟩ := pl
      exact ⟨o, e, hd⟩
    · refine ⟨⟨o, I.kIn p o hk, hc⟩, fun a e => ?_⟩
      cases e
      exact ⟨o, I.kIn _ o hk, hd⟩
    · have z : ∃ o, s.heap.get? p = some o ∧ o.ExactDict := by
        rcases hk with ⟨kvs, hk⟩ | ⟨kvs, hk⟩
        · obtain ⟨_, _, _, _, o, _, _, e, ex, _⟩ := I.hok p _ hk
          exact ⟨o, e, ex⟩
        · obtain ⟨_, _, _, _, o, _, _, e, ex, _⟩ := I.hok p _ hk
          exact ⟨o, e, ex⟩
      obtain ⟨o, e, ex⟩ := z
      refine ⟨⟨o, e, ex.1⟩, fun a e2 => ?_⟩
      cases e2
      exact ⟨o, e, ex.2.1⟩
    · obtain ⟨o, _, _, _, e, ex, _⟩ := I.hok p _ hk
      refine ⟨⟨o, e, ex.1⟩, fun a e2 => ?_⟩
      cases e2
      exact ⟨o, e, ex.2.1⟩
  | _ => exact False.elim ty
def tBM (K : PySem.W.Frag) (T : String) (r : V → List V → Hp → VK → Prop) (to : TE) (t : TA) : TE := fun σ H Q => to σ H fun x H1 => tyV K T x H1 ∧ t σ H1 fun xs H2 => r x xs H2 Q
variable {o e : Expr} {es : List Expr} {to : TE} {t : TA} {name : Str} {apos cpos : Pos} {T id : String} {r : V → List V → Hp → VK → Prop}
theorem pe_bm (pa : PlainAttrs T) (slot : Slot T name id) (hty : typeOf (.builtin id) = pure (.type "method_descriptor")) (hm : MtR X id r) (ho : PE X o to) (ha : PA X (e :: es) t)
    (hbase : attributeBase o name X.env (eval o X.env) = eval o X.env := by rfl)
    (hfew : ((backTo cpos (starEach (e :: es) X.env)).all (fun x => !x.1) && (backToKw cpos (keywordEach [] X.env)).all (fun x => x.1.isSome)
      && decide ((e :: es).length + ([] : List Keyword).length + (if ([] : List Keyword).isEmpty then 0 else 1) < 30)) = true := by rfl)
    (hline : (apos.endLine == cpos.line) = true := by rfl) (hs : starEach (e :: es) X.env = (false, eval e X.env) :: starEach es X.env := by rfl) (hplain : (backTo cpos (starEach es X.env)).any (·.1) = false := by rfl) :
    PE X (.Call (.Attribute o name apos) (e :: es) [] cpos) (tBM X.K T r to t) := by
  intro pins s σ H Q I h
  refine wpAny_Call_method_late hbase hfew hline rfl (thn (ho pins s σ H _ I h) fun v s1 ⟨x, H1, I1, r1, ty, q1⟩ => ?_)
  obtain ⟨h1, h2⟩ := tyV_is I1 r1 ty
  refine ⟨T, id, pa, slot, hty, h1, h2, ?_⟩
  have hA := ha cpos pins s1 σ H1 _ I1 q1
  rw [hs] at hA ⊢
  refine Calls.callWith_builtin (by show (false || (backTo cpos (starEach es X.env)).any (·.1)) = false; rw [hplain] <;> rfl) (Calls.evalArgs_plain ?_)
  exact thn hA fun us s2 ⟨vs, H2, I2, r2, q2⟩ => hm pins s2 σ H2 x vs v us Q I2 r1 r2 q2
/- xs.append(e), list.index on a module's tuple .. are MtR facts of 06m -/
end
end L2

namespace L2
open PySem PySem.Spec PyProof.Rows

def MtM (X : Cx) (id : String) (r : V → List V → Hp → VK → Prop) : Prop :=
  ∀ (pins : List (Addr × Obj)) (s : Shared) (σ : St) (H : Hp) (x : V) (xs : List V) (v : Value) (us : List Value) (Q : VK), Inv X pins σ H s → RelV x v → Vals xs us → r x xs H Q →
    wpAny (model X.prog X.w) X.A (call (.builtin id) (v :: us)) (EP X pins σ Q) X.xe s

/-! ### lists of values -/
theorem Vals.one : ∀ {x : V} {us : List Value}, Vals [x] us → ∃ u, us = [u] ∧ RelV x u
  | _, _, .cons r .nil => ⟨_, rfl, r⟩
theorem Vals.two : ∀ {x y : V} {us : List Value}, Vals [x, y] us → ∃ u v, us = [u, v] ∧ RelV x u ∧ RelV y v
  | _, _, _, .cons r (.cons q .nil) => ⟨_, _, rfl, r, q⟩
theorem Vals.zero : ∀ {us : List Value}, Vals [] us → us = []
  | _, .nil => rfl
theorem Vals.reverse {xs : List V} {us : List Value} (h : Vals xs us) : Vals xs.reverse us.reverse := by
  induction h with
  | nil => exact .nil
  | cons r t ih => rw [List.reverse_cons, List.reverse_cons]; exact Vals.append ih (.cons r .nil)
theorem Vals.rep {xs : List V} {us : List Value} (h : Vals xs us) : ∀ k : Nat, Vals (List.replicate k xs).flatten (List.replicate k us).flatten
  | 0 => .nil
  | k + 1 => by
    rw [List.replicate_succ, List.replicate_succ, List.flatten_cons, List.flatten_cons]
    exact Vals.append h (Vals.rep h k)
theorem foldl_rep (its : List Value) : ∀ (k : Nat) (acc : List Value),
    List.foldl (fun x1 x2 => x1 ++ x2) acc.toArray (List.replicate k its.toArray) = (acc ++ (List.replicate k its).flatten).toArray
  | 0, acc => by simp
  | k + 1, acc => by
    have e : acc.toArray ++ its.toArray = (acc ++ its).toArray := by simp
    have e2 : (acc ++ its) ++ (List.replicate k its).flatten = acc ++ (List.replicate (k + 1) its).flatten := by
      rw [List.replicate_succ, List.flatten_cons, List.append_assoc]
    rw [← e2, ← foldl_rep its k (acc ++ its), ← e, List.replicate_succ, List.foldl_cons]

section
variable {X : Cx} {pins : List (Addr × Obj)} {σ : St} {H : Hp} {s : Shared} {l b : Addr} {xs ys zs : List V}

/-! ### the two steps: a tracked list is rewritten, a new list is laid -/
theorem Inv.lset {its its' : List Value} {n : Nat} {f : Array Value → Array Value} {t' : Nat} (I : Inv X pins σ H s) (hH : H l = some (.lst xs))
    (e : s.heap.get? l = some { cls := .type "list", data := .seq its.toArray n }) (hf : f its.toArray = its'.toArray) (hv : Vals ys its') (hz : ys.length ≤ sizeLine) :
    Inv X pins σ (upd H l (.lst ys)) { s with heap := s.heap.update l (Obj.mapSeq f), toks := t' } := by
  have q := PySem.IsL.update e f
  rw [hf] at q
  refine I.write (x := l) (e := l) (by rw [hH]; exact trivial) (.inl rfl) (fun b' u hb hu => (Heap.get?_update_other s.heap (Obj.mapSeq f) (Ne.symm hb)).trans hu) ⟨_, q⟩ ?_
  exact ⟨hz, its', _, hv, q⟩
theorem Inv.lnew {its : List Value} {t' : Nat} (I : Inv X pins σ H s) (hv : Vals ys its) (hz : ys.length ≤ sizeLine) :
    Inv X pins σ (upd H s.heap.objs.size (.lst ys)) { s with heap := s.heap.push { cls := .type "list", data := .seq its.toArray }, toks := t' } :=
  I.laid (fun _ _ q => Heap.get?_push_of_some _ q) (Nat.le_refl _) ⟨hz, its, 0, hv, Heap.get?_push_size _ rfl⟩
theorem Inv.fresh (I : Inv X pins σ H s) : H s.heap.objs.size = none := I.hok.fresh (Nat.le_refl _)
theorem Inv.lstM (I : Inv X pins σ H s) (hH : H l = some (.lst xs)) : xs.length ≤ sizeLine ∧ ∃ (its : List Value) (n : Nat), Vals xs its ∧ xs.length = its.length ∧ s.heap.get? l = some { cls := .type "list", data := .seq its.toArray n } := by
  obtain ⟨z, its, n, r, e⟩ := I.hok l _ hH
  exact ⟨z, its, n, r, r.length, e⟩

theorem notLongL {n : Nat} (h : n ≤ sizeLine) : Builtin.List.listTooLong n = false := by
  unfold Builtin.List.listTooLong
  exact decide_eq_false (by omega)
end

section
variable {X : Cx}

/-! ### methods -/
def rAppend : V → List V → Hp → VK → Prop := fun x vs H Q => ∃ l xs y, x = .ref l ∧ vs = [y] ∧ H l = some (.lst xs) ∧ xs.length < sizeLine ∧ Q .non (upd H l (.lst (xs ++ [y])))
theorem mt_append : MtM X "list.append" rAppend := by
  intro pins s σ H x vs v us Q I rx rv h
  obtain ⟨l, xs, y, rfl, rfl, hH, hz, q⟩ := h
  cases rx
  obtain ⟨u, rfl, ru⟩ := rv.one
  obtain ⟨z, its, n, r, hl, e⟩ := I.lstM hH
  refine call_meets F.slot_list_append ⟨_, e, rfl⟩ F.entry_list_append (F.args_list_append_2 _ _) (PySem.list_append l its.toArray n u (by rw [List.size_toArray]; omega)) ⟨e, ?_⟩
  refine ⟨.non, _, I.lset (its' := its ++ [u]) hH e (by simp) (r.append (.cons ru .nil)) ?_, rfl, q⟩
  rw [List.length_append, List.length_singleton]
  omega

/-! ### list + list, list += list, list * int -/
/-- a list times an int (a negative one is nothing) -/
def rRep : R2 := fun x y H Q => ∃ l k xs, x = .ref l ∧ y = .int k ∧ H l = some (.lst xs) ∧ -(2 ^ 63) ≤ k ∧ k < 2 ^ 63 ∧ xs.length * k.toNat ≤ sizeLine ∧
  ∀ p, H p = none → Q (.ref p) (upd H p (.lst (List.replicate k.toNat xs).flatten))
theorem len_rep {α : Type} (xs : List α) (k : Nat) : (List.replicate k xs).flatten.length = k * xs.length := by
  induction k with
  | zero => simp
  | succ k ih => rw [List.replicate_succ, List.flatten_cons, List.length_append, ih, Nat.succ_mul, Nat.add_comm]
theorem op_rep : OpR X (binaryOp .Mult) rRep := by
  intro pins s σ H x y v u Q I rx ry h
  obtain ⟨l, k, xs, rfl, rfl, hH, h1, h2, hz, q⟩ := h
  cases rx
  obtain ⟨t, rfl⟩ := ry
  obtain ⟨z, its, n, r, hl, e⟩ := I.lstM hH
  have hlen : its.toArray.size * k.toNat ≤ sizeLine := by rw [List.size_toArray, ← hl]; exact hz
  have hcap : ¬ its.toArray.size * k.toNat > (2 ^ 63 - 1) / 8 := by
    have : (sizeLine : Nat) ≤ (2 ^ 63 - 1) / 8 := by decide
    omega
  have hfit : ¬ (!Builtin.List.listFitsIndex k) = true := by
    rw [fitsIndex_both h1 h2]
    exact Bool.false_ne_true
  have hlong : ¬ Builtin.List.listTooLong (its.toArray.size * k.toNat) = true := by
    rw [notLongL hlen]
    exact Bool.false_ne_true
  have hnew : List.foldl (fun x1 x2 => x1 ++ x2) #[] (List.replicate (if its.toArray.isEmpty = true then 0 else k.toNat) its.toArray) = (List.replicate k.toNat its).flatten.toArray := by
    have f0 : ∀ m : Nat, List.foldl (fun x1 x2 => x1 ++ x2) #[] (List.replicate m its.toArray) = (List.replicate m its).flatten.toArray := fun m => by
      have := foldl_rep its m []
      rw [List.nil_append] at this
      exact this
    rw [f0]
    cases its with
    | nil => simp
    | cons a r' => rw [if_neg (by simp)]
  refine wpAny_binaryOp_repeat_ref (T := "list") (U := "int") (by decide) ⟨_, e, rfl⟩ (fun s' => typeIs_int s' k t) noFill_list_mul F.fills_int_mul F.slot_int_rmul repeat_list F.slot_int_index.lookup
    (call_meets F.slot_int_rmul (typeIs_int s k t) F.entry_int_rmul (F.args_int_rmul_2 _ _) (int___rmul___int_list k t l its.toArray n)
      ⟨e, rfl, ⟨_, e, rfl⟩, call_meets F.slot_list_mul ⟨_, e, rfl⟩ F.entry_list_mul (F.args_list_mul_2 _ _) (AutoListH.list___mul___list_int_3 l its.toArray n k t hfit hcap hlong) ⟨e, ?_⟩⟩)
  rw [hnew]
  exact ⟨.ref _, _, I.lnew (t' := s.toks) (r.rep k.toNat) (by rw [len_rep, Nat.mul_comm]; exact hz), rfl, q _ I.fresh⟩

/-! ### del xs[i] -/
end

/-! ### xs[a:b] = ys -/
section
variable {prog : Program} {w : World} {A : Around} {E : Value → Shared → Prop} {s : Shared}
set_option maxRecDepth 100000 in
end

section
variable {X : Cx}
end
end L2

namespace L2
open PySem PySem.Spec PyProof.Rows

/-! ### lists of pairs as tables -/
section
variable {κ : Type} [DecidableEq κ]
def valV (kvs : List (κ × V)) (k : κ) : Option V := (kvs.find? fun kv => decide (kv.1 = k)).map (·.2)
/-- in its place, or at the end -/
def putK (kvs : List (κ × V)) (k : κ) (v : V) : List (κ × V) :=
  if (kvs.any fun kv => decide (kv.1 = k)) = true then kvs.map (fun kv => if kv.1 = k then (kv.1, v) else kv) else kvs ++ [(k, v)]
def dropK (kvs : List (κ × V)) (k : κ) : List (κ × V) := kvs.filter fun kv => decide (kv.1 ≠ k)

theorem valV_pos {p : κ × V} {r : List (κ × V)} {k : κ} (e : p.1 = k) : valV (p :: r) k = some p.2 := by simp [valV, List.find?_cons, e]
theorem valV_neg {p : κ × V} {r : List (κ × V)} {k : κ} (e : ¬ p.1 = k) : valV (p :: r) k = valV r k := by simp [valV, List.find?_cons, e]
theorem valV_any (k : κ) : ∀ kvs : List (κ × V), (kvs.any fun kv => decide (kv.1 = k)) = (valV kvs k).isSome
  | [] => rfl
  | p :: r => by
    rw [List.any_cons]
    by_cases e : p.1 = k
    · simp only [valV_pos e, decide_eq_true e, Bool.true_or, Option.isSome_some]
    · rw [valV_neg e, decide_eq_false e, Bool.false_or]; exact valV_any k r
theorem valV_map (k j : κ) (y : V) : ∀ kvs : List (κ × V), valV (kvs.map fun kv => if kv.1 = k then (kv.1, y) else kv) j = (valV kvs j).map fun x => if j = k then y else x
  | [] => rfl
  | p :: r => by
    have ih := valV_map k j y r
    rw [List.map_cons]
    by_cases h : p.1 = k
    · rw [if_pos h]
      by_cases e : p.1 = j
      · rw [valV_pos (p := (p.1, y)) e, valV_pos e, Option.map_some, if_pos (e.symm.trans h)]
      · rw [valV_neg (p := (p.1, y)) e, valV_neg e, ih]
    · rw [if_neg h]
      by_cases e : p.1 = j
      · rw [valV_pos (p := p) e, valV_pos e, Option.map_some, if_neg (fun z => h (e.trans z))]
      · rw [valV_neg (p := p) e, valV_neg e, ih]
theorem valV_snoc (k j : κ) (y : V) : ∀ kvs : List (κ × V), valV kvs k = none → valV (kvs ++ [(k, y)]) j = if j = k then some y else valV kvs j
  | [], _ => by
    by_cases e : k = j
    · rw [if_pos e.symm]; exact valV_pos (p := (k, y)) e
    · rw [if_neg (fun z => e z.symm)]; exact valV_neg (p := (k, y)) e
  | p :: r, hn => by
    rw [List.cons_append]
    have hk : ¬ p.1 = k := fun z => by rw [valV_pos z] at hn; cases hn
    rw [valV_neg hk] at hn
    have ih := valV_snoc k j y r hn
    by_cases e : p.1 = j
    · rw [valV_pos e, valV_pos e, if_neg (fun z => hk (e.trans z))]
    · rw [valV_neg e, valV_neg e, ih]
theorem valV_put (kvs : List (κ × V)) (k j : κ) (y : V) : valV (putK kvs k y) j = if j = k then some y else valV kvs j := by
  unfold putK
  by_cases a : (kvs.any fun kv => decide (kv.1 = k)) = true
  · rw [if_pos a, valV_map]
    rw [valV_any] at a
    by_cases e : j = k
    · obtain ⟨x, hx⟩ := Option.isSome_iff_exists.mp a
      rw [if_pos e, e, hx, Option.map_some, if_pos rfl]
    · rw [if_neg e]
      cases valV kvs j with
      | none => rfl
      | some x => rw [Option.map_some, if_neg e]
  · rw [if_neg a]
    refine valV_snoc k j y kvs ?_
    rw [valV_any] at a
    cases q : valV kvs k with
    | none => rfl
    | some x => rw [q] at a; exact (a rfl).elim
theorem length_putK (kvs : List (κ × V)) (k : κ) (v : V) : (putK kvs k v).length ≤ kvs.length + 1 := by
  unfold putK
  split
  · rw [List.length_map]; omega
  · rw [List.length_append, List.length_cons, List.length_nil]; omega
theorem RelO.isSome_eq {o : Option V} {u : Option Value} (r : RelO o u) : o.isSome = u.isSome := by
  cases o with
  | none => cases u with
    | none => rfl
    | some _ => exact (show False from r).elim
  | some _ => cases u with
    | none => exact (show False from r).elim
    | some _ => rfl
theorem RelO.getD {o : Option V} {u : Option Value} {d : V} {d' : Value} (r : RelO o u) (rd : RelV d d') : RelV (o.getD d) (u.getD d') := by
  cases o with
  | none => cases u with
    | none => exact rd
    | some _ => exact (show False from r).elim
  | some _ => cases u with
    | none => exact (show False from r).elim
    | some _ => exact r

/-- raw tables of the same keys -/
theorem KV.val {kvs : List (κ × V)} {vs : List (κ × Value)} (r : KV kvs vs) (k : κ) : RelO (valV kvs k) (valueAt vs k) := by
  unfold KV at r
  induction r with
  | nil => exact True.intro
  | @cons p q ps qs h t ih =>
    obtain ⟨h1, h2⟩ := h
    by_cases e : p.1 = k
    · have e' : q.1 = k := h1.symm.trans e
      have b : valueAt (q :: qs) k = some q.2 := by simp [valueAt, List.find?_cons, e']
      rw [valV_pos e, b]; exact h2
    · have e' : ¬ q.1 = k := fun z => e (h1.trans z)
      have b : valueAt (q :: qs) k = valueAt qs k := by simp [valueAt, List.find?_cons, e']
      rw [valV_neg e, b]; exact ih
theorem KV.any {kvs : List (κ × V)} {vs : List (κ × Value)} (r : KV kvs vs) (k : κ) : (kvs.any fun kv => decide (kv.1 = k)) = vs.any fun kv => decide (kv.1 = k) := by
  unfold KV at r
  induction r with
  | nil => rfl
  | cons h t ih => rw [List.any_cons, List.any_cons, ih, h.1]
theorem KV.repl {kvs : List (κ × V)} {vs : List (κ × Value)} (r : KV kvs vs) (k : κ) {y : V} {u : Value} (ry : RelV y u) :
    KV (kvs.map fun kv => if kv.1 = k then (kv.1, y) else kv) (vs.map fun kv => if kv.1 = k then (kv.1, u) else kv) := by
  unfold KV at r ⊢
  induction r with
  | nil => exact .nil
  | @cons p q ps qs h t ih =>
    rw [List.map_cons, List.map_cons]
    refine .cons ?_ ih
    obtain ⟨h1, h2⟩ := h
    by_cases e : p.1 = k
    · rw [if_pos e, if_pos (h1.symm.trans e)]; exact ⟨h1, ry⟩
    · rw [if_neg e, if_neg (fun z => e (h1.trans z))]; exact ⟨h1, h2⟩
theorem KV.put {kvs : List (κ × V)} {vs : List (κ × Value)} (r : KV kvs vs) (k : κ) {y : V} {u : Value} (ry : RelV y u) : KV (putK kvs k y) (stored vs k u) := by
  unfold putK stored
  rw [r.any k]
  by_cases e : (vs.any fun kv => decide (kv.1 = k)) = true
  · rw [if_pos e, if_pos e]; exact r.repl k ry
  · rw [if_neg e, if_neg e]; exact Paired.snoc r ⟨rfl, ry⟩
theorem KV.drop {kvs : List (κ × V)} {vs : List (κ × Value)} (r : KV kvs vs) (k : κ) : KV (dropK kvs k) (without vs k) := by
  unfold KV at r ⊢
  unfold dropK without
  induction r with
  | nil => exact .nil
  | @cons p q ps qs h t ih =>
    obtain ⟨h1, h2⟩ := h
    rw [List.filter_cons, List.filter_cons]
    by_cases e : p.1 = k
    · have a : ¬ decide (p.1 ≠ k) = true := by simp [e]
      have b : ¬ decide (q.1 ≠ k) = true := by simp [h1.symm.trans e]
      rw [if_neg a, if_neg b]; exact ih
    · have e' : ¬ q.1 = k := fun z => e (h1.trans z)
      have a : decide (p.1 ≠ k) = true := by simp [e]
      have b : decide (q.1 ≠ k) = true := by simp [e']
      rw [if_pos a, if_pos b]; exact .cons ⟨h1, h2⟩ ih
theorem KV.keys {kvs : List (κ × V)} {vs : List (κ × Value)} (r : KV kvs vs) : kvs.map (·.1) = vs.map (·.1) := by
  unfold KV at r
  induction r with
  | nil => rfl
  | cons h t ih => rw [List.map_cons, List.map_cons, ih, h.1]
theorem KV.length {kvs : List (κ × V)} {vs : List (κ × Value)} (r : KV kvs vs) : kvs.length = vs.length := Paired.length r
theorem dropK_le (kvs : List (κ × V)) (k : κ) : (dropK kvs k).length ≤ kvs.length := List.length_filter_le _ _
end


/-! ### a tracked dict, its keys ints and texts or tuples of these -/
theorem kV_is {P : Program} {w : World} {k : Key} {u : Value} (r : RelV (kV k) u) : (mixKind P w).is k u = true := by
  cases k with
  | inl i => obtain ⟨t, e⟩ := (show ∃ t, u = Value.int i t from r); subst e; exact mixKind_int P w i t
  | inr x => obtain ⟨t, e⟩ := (show ∃ t, u = Value.str x t from r); subst e; exact mixKind_str P w x t
theorem items_are {P : Program} {w : World} : ∀ {ks : List Key} {us : List Value}, Vals (ks.map kV) us → ItemsAre (mixKind P w) ks us
  | [], _, r => by rw [List.map_nil] at r; cases r; exact .nil
  | k :: ks, _, r => by
    rw [List.map_cons] at r
    cases r with
    | cons h t => exact .cons (kV_is h) (items_are t)

/-- raw entries of a dict with tuple keys -/
abbrev KT (H : Hp) : List (List Key × V) → List (List Key × Addr × Value) → Prop := Paired fun p q => p.1 = q.1 ∧ H q.2.1 = some (.tup (p.1.map kV)) ∧ RelV p.2 q.2.2
theorem KT.val {H : Hp} {kvs : List (List Key × V)} {xs : List (List Key × Addr × Value)} (r : KT H kvs xs) (k : List Key) : RelO (valV kvs k) ((atKey xs k).map (·.2)) := by
  induction r with
  | nil => exact True.intro
  | @cons p q ps qs h t ih =>
    obtain ⟨h1, _, h2⟩ := h
    by_cases e : p.1 = k
    · have e' : q.1 = k := h1.symm.trans e
      have b : atKey (q :: qs) k = some q.2 := by simp [atKey, List.find?_cons, e']
      rw [valV_pos e, b]; exact h2
    · have e' : ¬ q.1 = k := fun z => e (h1.trans z)
      have b : atKey (q :: qs) k = atKey qs k := by simp [atKey, List.find?_cons, e']
      rw [valV_neg e, b]; exact ih
theorem KT.repl {H : Hp} {kvs : List (List Key × V)} {xs : List (List Key × Addr × Value)} (r : KT H kvs xs) (k : List Key) {y : V} {u : Value} (ry : RelV y u) :
    KT H (kvs.map fun kv => if kv.1 = k then (kv.1, y) else kv) (xs.map (putAt k u)) := by
  induction r with
  | nil => exact .nil
  | @cons p q ps qs h t ih =>
    rw [List.map_cons, List.map_cons]
    refine .cons ?_ ih
    obtain ⟨h1, h2, h3⟩ := h
    unfold putAt
    by_cases e : p.1 = k
    · rw [if_pos e, if_pos (h1.symm.trans e)]; exact ⟨h1, h2, ry⟩
    · rw [if_neg e, if_neg (fun z => e (h1.trans z))]; exact ⟨h1, h2, h3⟩
theorem KT.put {H : Hp} {kvs : List (List Key × V)} {xs : List (List Key × Addr × Value)} (r : KT H kvs xs) (k : List Key) {b : Addr} {y : V} {u : Value} (hb : H b = some (.tup (k.map kV))) (ry : RelV y u) :
    KT H (putK kvs k y) (storedH xs k b u) := by
  have e : (kvs.any fun kv => decide (kv.1 = k)) = (atKey xs k).isSome := by
    rw [valV_any, (r.val k).isSome_eq, Option.isSome_map]
  unfold putK storedH
  rw [e]
  by_cases q : (atKey xs k).isSome = true
  · rw [if_pos q, if_pos q]; exact r.repl k ry
  · rw [if_neg q, if_neg q]; exact Paired.snoc r ⟨rfl, hb, ry⟩
theorem KT.keeps {H H' : Hp} {kvs : List (List Key × V)} {xs : List (List Key × Addr × Value)} (r : KT H kvs xs) (ht : ∀ b ys, H b = some (.tup ys) → H' b = some (.tup ys)) : KT H' kvs xs :=
  Paired.mapP r fun _ _ z => ⟨z.1, ht _ _ z.2.1, z.2.2⟩

section
variable {P : Program} {w : World} {H : Hp} {h : Heap} {a : Addr}
theorem rd_of {u : HO} (ok : HOk P w H h) (e : Rd H a u) : ObjOk P w H h a u := e.ok ok
theorem dk_rd {kvs : List (Key × V)} (ok : HOk P w H h) (e : Rd H a (.dK kvs)) : kvs.length ≤ sizeLine ∧ (a == sysModules) = false ∧ ∃ vs, KV kvs vs ∧ h.DictOf (mixKind P w) a vs :=
  show ObjOk P w H h a (.dK kvs) from rd_of ok e
theorem dk_of {kvs : List (Key × V)} (ok : HOk P w H h) (e : H a = some (.dK kvs)) : kvs.length ≤ sizeLine ∧ (a == sysModules) = false ∧ ∃ vs, KV kvs vs ∧ h.DictOf (mixKind P w) a vs := dk_rd ok (.inl e)
/-- a tracked tuple of ints and texts is a key -/
theorem key_of {ks : List Key} (ok : HOk P w H h) (e : H a = some (.tup (ks.map kV))) : (tupleKind (mixKind P w)).is h ks a := by
  obtain ⟨_, its, r, o, h1, h2, n, h3⟩ := (show ObjOk P w H h a (.tup (ks.map kV)) from ok a _ e)
  exact ⟨o, its.toArray, n, h1, h2, h3, by simpa using items_are r⟩
theorem dt_rd {kvs : List (List Key × V)} (ok : HOk P w H h) (e : Rd H a (.dT kvs)) : kvs.length ≤ sizeLine ∧ (a == sysModules) = false ∧
    ∃ xs, KT H kvs xs ∧ h.DictOfH (tupleKind (mixKind P w)) a xs := by
  obtain ⟨z, y, xs, r, o, es, ep, h1, h2, h3, h4, h5⟩ := (show ObjOk P w H h a (.dT kvs) from rd_of ok e)
  refine ⟨z, y, xs, r, o, es, ep, h1, h2, h3, h4, fun x hx => ?_, h5⟩
  have all : ∀ {l : List (List Key × V)} {m : List (List Key × Addr × Value)}, KT H l m → ∀ x ∈ m, (tupleKind (mixKind P w)).is h x.1 x.2.1 := by
    intro l m q
    induction q with
    | nil => intro x hx; exact nomatch hx
    | @cons p q ps qs hq t ih =>
      intro x hx
      rcases List.mem_cons.mp hx with e | hx
      · subst e
        exact key_of ok (by rw [← hq.1]; exact hq.2.1)
      · exact ih x hx
  exact all r x hx
theorem dt_of {kvs : List (List Key × V)} (ok : HOk P w H h) (e : H a = some (.dT kvs)) : kvs.length ≤ sizeLine ∧ (a == sysModules) = false ∧
    ∃ xs, KT H kvs xs ∧ h.DictOfH (tupleKind (mixKind P w)) a xs := dt_rd ok (.inl e)
end

/-- what the dict at a holds at the key y -/
def DGet (H : Hp) (a : Addr) (y : V) (r : Option V) : Prop :=
  (∃ kvs k, Rd H a (.dK kvs) ∧ y = kV k ∧ r = valV kvs k) ∨ ∃ kvs k b, Rd H a (.dT kvs) ∧ y = .ref b ∧ H b = some (.tup (k.map kV)) ∧ r = valV kvs k
/-- the heap behind a[y] = v -/
def DPut (H : Hp) (a : Addr) (y v : V) (H' : Hp) : Prop :=
  (∃ kvs k, H a = some (.dK kvs) ∧ y = kV k ∧ kvs.length < sizeLine ∧ H' = upd H a (.dK (putK kvs k v))) ∨
  ∃ kvs k b, H a = some (.dT kvs) ∧ y = .ref b ∧ H b = some (.tup (k.map kV)) ∧ kvs.length < sizeLine ∧ H' = upd H a (.dT (putK kvs k v))
theorem DGet.k {H : Hp} {a : Addr} {kvs : List (Key × V)} {k : Key} (e : H a = some (.dK kvs)) : DGet H a (kV k) (valV kvs k) := .inl ⟨kvs, k, .inl e, rfl, rfl⟩
theorem DGet.t {H : Hp} {a b : Addr} {kvs : List (List Key × V)} {k : List Key} (e : H a = some (.dT kvs)) (eb : H b = some (.tup (k.map kV))) : DGet H a (.ref b) (valV kvs k) := .inr ⟨kvs, k, b, .inl e, rfl, eb, rfl⟩
theorem DPut.k {H : Hp} {a : Addr} {kvs : List (Key × V)} {k : Key} {v : V} (e : H a = some (.dK kvs)) (hl : kvs.length < sizeLine) : DPut H a (kV k) v (upd H a (.dK (putK kvs k v))) := .inl ⟨kvs, k, e, rfl, hl, rfl⟩
theorem DPut.t {H : Hp} {a b : Addr} {kvs : List (List Key × V)} {k : List Key} {v : V} (e : H a = some (.dT kvs)) (eb : H b = some (.tup (k.map kV))) (hl : kvs.length < sizeLine) :
    DPut H a (.ref b) v (upd H a (.dT (putK kvs k v))) := .inr ⟨kvs, k, b, e, rfl, eb, hl, rfl⟩


section
variable {X : Cx} {pins : List (Addr × Obj)} {σ : St} {H : Hp} {s : Shared} {a : Addr} {y v : V} {u r : Value} {o : Option V} {A : Around} {E : Value → Shared → Prop}

theorem Inv.big (I : Inv X pins σ H s) : sysModules < s.heap.objs.size := by
  have h : mainGlobals < s.heap.objs.size := (I.mod.glob.keeps I.bk).lt
  exact Nat.lt_trans (by decide) h

/-- d[y], there -/
theorem d_getItem {Q : Value → Shared → Prop} (hu : A.units + 1 < cLine) (I : Inv X pins σ H s) (g : DGet H a y (some v)) (ry : RelV y u) (h : ∀ w' s', Inv X pins σ H s' → RelV v w' → Q w' s') :
    wpAny (model X.prog X.w) A (getItem (.ref a) u) Q E s := by
  rcases g with ⟨kvs, k, e, ey, l⟩ | ⟨kvs, k, b, e, ey, eb, l⟩
  · subst ey
    obtain ⟨z, hd, vs, rel, dd⟩ := dk_rd I.hok e
    obtain ⟨w', hw, rw'⟩ := RelO.some_of (v := v) (o := valueAt vs k) (by rw [l]; exact rel.val k)
    exact wpAny_getItem_of (kV_is ry) dd.mapOf hw (h w' _ (I.tok _) rw')
  · subst ey
    cases (show u = Value.ref b from ry)
    obtain ⟨z, hd, xs, rel, dd⟩ := dt_rd I.hok e
    obtain ⟨w', hw, rw'⟩ := RelO.some_of (v := v) (o := (atKey xs k).map (·.2)) (by rw [l]; exact rel.val k)
    obtain ⟨p, hp, hp2⟩ := Option.map_eq_some_iff.mp hw
    refine wpAny_getItem_heap (tupleKind_room_in1 hu) (key_of I.hok eb) dd hp ?_
    rw [hp2]
    exact h w' _ (I.tok _) rw'
/-- y in d -/
theorem d_in {Q : Value → Shared → Prop} (hu : A.units + 1 < cLine) (I : Inv X pins σ H s) (g : DGet H a y o) (ry : RelV y u) (h : ∀ s', Inv X pins σ H s' → Q (.bool o.isSome) s') :
    wpAny (model X.prog X.w) A (compareOp .In u (.ref a)) Q E s := by
  rcases g with ⟨kvs, k, e, ey, l⟩ | ⟨kvs, k, b, e, ey, eb, l⟩
  · subst ey
    obtain ⟨z, hd, vs, rel, dd⟩ := dk_rd I.hok e
    refine wpAny_in_of (kV_is ry) hd dd.mapOf ?_
    rw [← (rel.val k).isSome_eq, ← l]
    exact h _ (I.tok _)
  · subst ey
    cases (show u = Value.ref b from ry)
    obtain ⟨z, hd, xs, rel, dd⟩ := dt_rd I.hok e
    refine wpAny_in_heap (tupleKind_room_in1 hu) (key_of I.hok eb) hd dd ?_
    have q := (rel.val k).isSome_eq
    rw [Option.isSome_map] at q
    rw [← q, ← l]
    exact h _ (I.tok _)
/-- a dict's object is replaced -/
theorem d_write {h' : Heap} {t' : Nat} {ob : HO} (I : Inv X pins σ H s) (mu : Mut (H a)) (hs : Heap.SameBut a s.heap h') (he : ∃ q, h'.get? a = some q) (new : ObjOk X.prog X.w (upd H a ob) h' a ob) :
    Inv X pins σ (upd H a ob) { s with heap := h', toks := t' } :=
  I.write (x := a) (e := a) mu (.inl rfl) (fun b q hb z => (hs.2 b hb).trans z) he new
theorem dk_new {P : Program} {w : World} {H' : Hp} {h' : Heap} {kvs : List (Key × V)} {vs : List (Key × Value)} (z : kvs.length ≤ sizeLine) (hd : (a == sysModules) = false) (rel : KV kvs vs) (dd : h'.DictOf (mixKind P w) a vs) :
    ObjOk P w H' h' a (.dK kvs) := ⟨z, hd, vs, rel, dd⟩
/-- d[y] = v -/
theorem d_setItem {H' : Hp} {Q : Unit → Shared → Prop} (hu : A.units + 1 < cLine) (I : Inv X pins σ H s) (g : DPut H a y v H') (ry : RelV y u) (rv : RelV v r) (h : ∀ s', Inv X pins σ H' s' → Q () s') :
    wpAny (model X.prog X.w) A (setItem (.ref a) u r) Q E s := by
  rcases g with ⟨kvs, k, e, ey, l, eH⟩ | ⟨kvs, k, b, e, ey, eb, l, eH⟩
  · subst ey eH
    obtain ⟨z, hd, vs, rel, dd⟩ := dk_of I.hok e
    have hz : vs.length ≤ sizeLine := by rw [← rel.length]; exact z
    have hl : (putK kvs k v).length ≤ sizeLine := by have := length_putK kvs k v; omega
    refine wpAny_setItem_pairs (hsz := hz) (kV_is ry) dd fun h' dd' hs => h _ ?_
    have he : ∃ q, h'.get? a = some q := let ⟨q, _, _, hq, _⟩ := dd'; ⟨q, hq⟩
    exact d_write I (by rw [e]; exact True.intro) hs he (dk_new hl hd (rel.put k rv) dd')
  · subst ey eH
    cases (show u = Value.ref b from ry)
    obtain ⟨z, hd, xs, rel, dd⟩ := dt_of I.hok e
    have hz : xs.length ≤ sizeLine := by rw [← Paired.length rel]; exact z
    have hl : (putK kvs k v).length ≤ sizeLine := by have := length_putK kvs k v; omega
    refine wpAny_setItem_heap (hsz := hz) (tupleKind_room_in1 hu) (key_of I.hok eb) dd fun h' dd' hs => h _ ?_
    obtain ⟨q, es, ep, hq, h2, h3, h4, _, h5⟩ := dd'
    refine d_write I (by rw [e]; exact True.intro) hs ⟨q, hq⟩ ⟨hl, hd, _, (rel.put k eb rv).keeps fun c ys ec => ?_, q, es, ep, hq, h2, h3, h4, h5⟩
    rw [upd_ne (ne_of ec e (fun z => nomatch z))]
    exact ec
end

section
variable {X : Cx} {pins : List (Addr × Obj)} {σ : St} {H : Hp} {s : Shared} {a : Addr} {kvs : List (Key × V)} {k : Key} {u : Value} {A : Around} {E : Value → Shared → Prop}
/-- d.pop(k[, x]), there -/
theorem d_pop {v : V} {more : List Value} {Q : Value → Shared → Prop} (I : Inv X pins σ H s) (e : H a = some (.dK kvs)) (ry : RelV (kV k) u) (l : valV kvs k = some v) (hm : more = [] ∨ ∃ x, more = [x])
    (h : ∀ w' s', Inv X pins σ (upd H a (.dK (dropK kvs k))) s' → RelV v w' → Q w' s') : wpAny (model X.prog X.w) A (call (.builtin "dict.pop") (.ref a :: u :: more)) Q E s := by
  obtain ⟨z, hd, vs, rel, dd⟩ := dk_of I.hok e
  obtain ⟨w', hw, rw'⟩ := RelO.some_of (v := v) (o := valueAt vs k) (by rw [← l]; exact rel.val k)
  have hp : (keyPart u).isSome = true := by
    cases k with
    | inl i => obtain ⟨t, q⟩ := (show ∃ t, u = Value.int i t from ry); subst q; rfl
    | inr x => obtain ⟨t, q⟩ := (show ∃ t, u = Value.str x t from ry); subst q; rfl
  have ha : argsOk "dict.pop" ⟨.ref a :: u :: more, []⟩ := by
    rcases hm with q | ⟨x, q⟩
    · subst q; exact PySem.F.args_dict_pop_2 _ _
    · subst q; exact PySem.F.args_dict_pop_3 _ _ _
  refine call_meetsIn PySem.F.slot_dict_pop dd.typeIs PySem.F.entry_dict_pop ha (meets_dict_pop_there (mixKind X.prog X.w) a (kV_is ry) more hm hp)
    ⟨vs, w', dd, by rw [← rel.length]; exact z, hw, fun h' dd' hs => h w' _ ?_ rw'⟩
  have he : ∃ q, h'.get? a = some q := let ⟨q, _, _, hq, _⟩ := dd'; ⟨q, hq⟩
  exact d_write I (by rw [e]; exact True.intro) hs he (dk_new (Nat.le_trans (dropK_le kvs k) z) hd (rel.drop k) dd')
/-- len(d) -/
theorem d_len {Q : Value → Shared → Prop} (I : Inv X pins σ H s) (e : Rd H a (.dK kvs)) (h : ∀ t s', Inv X pins σ H s' → Q (.int kvs.length t) s') : wpAny (model X.prog X.w) A (call (.builtin "len") [.ref a]) Q E s := by
  obtain ⟨z, hd, vs, rel, dd⟩ := dk_rd I.hok e
  refine call_len_dict hd dd (by rw [← rel.length]; rw [sizeLine_eq] at z; omega) ?_
  rw [← rel.length]
  exact h _ _ (I.tok _)
end


/-! ### readings and rules -/
/-- the element of a subscription, not a slice -/
def NoSl (i : Expr) : Prop := ∀ ov iv, subscripted i false ov iv = operate [ov, iv] (getItem ov iv)
theorem subD_of {prog : Program} {w : World} {A : Around} {E : Value → Shared → Prop} {s : Shared} {env : Env} {value slice : Expr} {pos : Pos} {T id : String} {Q : Value → Shared → Prop}
    (hl : typeLookup (.type T) "__getitem__" = pure (some (.builtin id))) (hs : NoSl slice)
    (h : wpAny (model prog w) A (eval value env) (fun o s₁ => wpAny (model prog w) A (eval slice env) (fun i s₂ => s₂.TypeIs o T ∧ wpAny (model prog w) A (getItem o i) Q E s₂) E s₁) E s) :
    wpAny (model prog w) A (eval (.Subscript value slice pos) env) Q E s := by
  refine Subscript_ (wpAny_mono h (fun o s₁ h₁ => wpAny_mono h₁ (fun i s₂ h₂ => ?_) fun _ _ x => x) fun _ _ x => x)
  obtain ⟨hT, h₂⟩ := h₂
  unfold subscriptTail
  refine wpAny_bind ?_
  rw [getitemInPython_of_ne hT.not_modules]
  refine wpAny_bind (wpAny_specialOf hT hl ?_)
  have fin : wpAny (model prog w) A (subscripted slice false o i) (fun r s₃ => wpAny (model prog w) A (letTemporaryGo value o r >>= fun _ => pure r) Q E s₃) E s₂ := by
    rw [hs o i]
    exact wpAny_operating (wpAny_mono h₂ (fun r s₃ h₃ => wpAny_bind (wpAny_letTemporaryGo (wpAny_pure h₃))) fun _ _ x => x)
  first
    | exact wpAny_pure (wpAny_bind fin)
    | exact wpAny_bind (wpAny_pure (wpAny_bind fin))
    | exact wpAny_bind fin

theorem dict_typeIs {X : Cx} {pins : List (Addr × Obj)} {σ : St} {H : Hp} {s : Shared} {a : Addr} {y : V} {o : Option V} (I : Inv X pins σ H s) (g : DGet H a y o) : s.TypeIs (.ref a) "dict" := by
  rcases g with ⟨kvs, k, e, _, _⟩ | ⟨kvs, k, b, e, _, _, _⟩
  · obtain ⟨_, _, vs, _, dd⟩ := dk_rd I.hok e
    exact dd.typeIs
  · obtain ⟨_, _, xs, _, dd⟩ := dt_rd I.hok e
    exact dd.typeIs
/-- d[y] -/
def tDGet (td ty : TE) : TE := fun σ H Q => td σ H fun x H1 => ty σ H1 fun y H2 => ∃ a v, x = .ref a ∧ DGet H2 a y (some v) ∧ Q v H2
/-- y in d, y not in d -/
def tDIn (ty td : TE) : TE := fun σ H Q => ty σ H fun y H1 => td σ H1 fun x H2 => ∃ a o, x = .ref a ∧ DGet H2 a y o ∧ Q (.bl o.isSome) H2
def tDNotIn (ty td : TE) : TE := fun σ H Q => ty σ H fun y H1 => td σ H1 fun x H2 => ∃ a o, x = .ref a ∧ DGet H2 a y o ∧ Q (.bl (!o.isSome)) H2
/-- d[y] = v -/
def sDPut (td ty tv : TE) : TS := fun D σ H => tv σ H fun v H1 => td σ H1 fun x H2 => ty σ H2 fun y H3 => ∃ a H4, x = .ref a ∧ DPut H3 a y v H4 ∧ D.nx σ H4
section
variable {X : Cx} {o i e value : Expr} {pos pos' tpos : Pos} {td ty tv : TE}
theorem pe_dget (hu : X.A.units + 1 < cLine) (ho : PE X o td) (hi : PE X i ty) (hs : NoSl i) : PE X (.Subscript o i pos) (tDGet td ty) := by
  intro pins s σ H Q I h
  refine subD_of PySem.F.slot_dict_getitem.lookup hs (thn (ho pins s σ H _ I h) fun u s1 ⟨x, H1, I1, rx, q1⟩ => thn (hi pins s1 σ H1 _ I1 q1) fun iv s2 ⟨y, H2, I2, ry, a, v, ex, g, q2⟩ => ?_)
  subst ex
  obtain rfl : u = Value.ref a := rx
  exact ⟨dict_typeIs I2 g, d_getItem hu I2 g ry fun w' s3 I3 rw' => ⟨v, H2, I3, rw', q2⟩⟩
theorem pc_din (hu : X.A.units + 1 < cLine) (hi : PE X i ty) (ho : PE X o td) : PC X .In i o (tDIn ty td) := by
  intro pins s σ H Q I h
  refine thn (hi pins s σ H _ I h) fun iv s1 ⟨y, H1, I1, ry, q1⟩ => thn (ho pins s1 σ H1 _ I1 q1) fun u s2 ⟨x, H2, I2, rx, a, ov, ex, g, q2⟩ => ?_
  subst ex
  obtain rfl : u = Value.ref a := rx
  exact d_in hu I2 g ry fun s3 I3 => ⟨.bl ov.isSome, H2, I3, rfl, q2⟩
theorem ps_dput (hu : X.A.units + 1 < cLine) (ho : PE X o td) (hi : PE X i ty) (hv : PE X value tv) (hs : swapsWith value (some (.Subscript o i pos')) pos.line X.env = pure false) :
    PS X (.Assign [.Subscript o i pos'] value pos) (sDPut td ty tv) := by
  intro pins s σ H D I h
  refine wpAny_Assign_Subscript (thn (hv pins s σ H _ I h) fun r s1 ⟨v, H1, I1, rv, q1⟩ => thn (ho pins s1 σ H1 _ I1 q1) fun u s2 ⟨x, H2, I2, rx, q2⟩ => thn (hi pins s2 σ H2 _ I2 q2) fun iv s3 ⟨y, H3, I3, ry, a, H4, ex, g, q3⟩ => ?_) hs
  subst ex
  obtain rfl : u = Value.ref a := rx
  exact d_setItem hu I3 g ry rv fun s4 I4 => ⟨σ, H4, I4, q3⟩
end


/-! ### displays -/
theorem dk_empty {P : Program} {w : World} {H : Hp} (h : Heap) (hb : sysModules < h.objs.size) : ObjOk P w H (h.push { cls := .type "dict", data := .dict #[] }) h.objs.size (.dK []) :=
  ⟨Nat.zero_le _, beq_eq_false_iff_ne.mpr (Ne.symm (Nat.ne_of_lt hb)), [], .nil, Heap.DictOf.new h⟩
/-- {}, to be a dict of the kind that is wanted -/
def tDNewK : TE := fun _ H Q => ∀ p, H p = none → Q (.ref p) (upd H p (.dK []))
section
variable {X : Cx} {pos : Pos}
theorem pe_dnewK : PE X (.Dict [] [] pos) tDNewK := fun pins s σ H Q I h =>
  wpAny_Dict_empty ⟨.ref s.heap.objs.size, _, I.laid (a := s.heap.objs.size) (o := .dK []) (t' := s.toks) (fun _ _ q => Heap.get?_push_of_some _ q) (Nat.le_refl _) (dk_empty s.heap I.big), rfl, h _ (I.hok.fresh (Nat.le_refl _))⟩
end

/-- the pairs of a display, from the left -/
def tPairs : List (TE × TE) → St → Hp → (List (V × V) → Hp → Prop) → Prop
  | [], _, H, Q => Q [] H
  | (tk, tv) :: r, σ, H, Q => tk σ H fun x H1 => tv σ H1 fun y H2 => tPairs r σ H2 fun ps H3 => Q ((x, y) :: ps) H3
def mergeK (kvs more : List (Key × V)) : List (Key × V) := more.foldl (fun acc kv => putK acc kv.1 kv.2) kvs
/-- {k: v, ..} with keys ints and texts; the new dict stands empty while the pairs are made -/
def tDisp (trs : List (TE × TE)) : TE := fun σ H Q => ∀ p, H p = none → tPairs trs σ (upd H p (.dK [])) fun ps H2 => H2 p = some (.dK []) ∧ ∃ kvs : List (Key × V), ps = kvs.map (fun kv => (kV kv.1, kv.2)) ∧ kvs.length ≤ 15 ∧ Q (.ref p) (upd H2 p (.dK (mergeK [] kvs)))
/-! ### methods -/
/-- a method call o.m(e) of a built-in, with one argument: what must be seen of the text -/
structure M1 (X : Cx) (o : Expr) (m : Str) (apos : Pos) (e : Expr) (cpos : Pos) : Prop where
  base : attributeBase o m X.env (eval o X.env) = eval o X.env
  few : ((backTo cpos (starEach [e] X.env)).all (fun x => !x.1) && (backToKw cpos (keywordEach [] X.env)).all (fun x => x.1.isSome)
    && decide (([e] : List Expr).length + ([] : List Keyword).length + (if ([] : List Keyword).isEmpty then 0 else 1) < 30)) = true
  line : (apos.endLine == cpos.line) = true
  trees : backTo cpos (starEach [e] X.env) = [(false, eval e X.env)]
/-- a is a dict, whatever its keys -/
def IsD (H : Hp) (a : Addr) : Prop := (∃ kvs, Rd H a (.dK kvs)) ∨ ∃ kvs, Rd H a (.dT kvs)
theorem isD_at {X : Cx} {pins : List (Addr × Obj)} {σ : St} {H : Hp} {s : Shared} {a : Addr} (I : Inv X pins σ H s) (d : IsD H a) :
    s.TypeIs (.ref a) "dict" ∧ (∀ b, Value.ref a = .ref b → ∃ ob, s.heap.get? b = some ob ∧ ob.dict = none) ∧ (a == sysModules) = false := by
  rcases d with ⟨kvs, e⟩ | ⟨kvs, e⟩
  · obtain ⟨_, hd, vs, _, dd⟩ := dk_rd I.hok e
    refine ⟨dd.typeIs, fun b q => ?_, hd⟩
    cases q
    obtain ⟨ob, _, _, h1, h2, _⟩ := dd
    exact ⟨ob, h1, h2.2.1⟩
  · obtain ⟨_, hd, xs, _, dd⟩ := dt_rd I.hok e
    refine ⟨dd.typeIs, fun b q => ?_, hd⟩
    cases q
    obtain ⟨ob, _, _, h1, h2, _⟩ := dd
    exact ⟨ob, h1, h2.2.1⟩

section
variable {X : Cx} {pins : List (Addr × Obj)} {σ : St} {H : Hp} {s : Shared} {a : Addr} {y d : V} {u r : Value} {o : Option V} {A : Around} {E : Value → Shared → Prop}
end

/-- d.pop(k): there; d.pop(k, x): there or not -/
def tDPop1 (td ty : TE) : TE := fun σ H Q => td σ H fun x H1 => ∃ a, x = .ref a ∧ IsD H1 a ∧ ty σ H1 fun y H2 => ∃ kvs k v, H2 a = some (.dK kvs) ∧ y = kV k ∧ valV kvs k = some v ∧ Q v (upd H2 a (.dK (dropK kvs k)))
section
variable {X : Cx} {o e f : Expr} {apos cpos : Pos} {td ty tx : TE}
theorem pe_dpop1 (ho : PE X o td) (he : PE X e ty) (m : M1 X o "pop" apos e cpos) : PE X (.Call (.Attribute o "pop" apos) [e] [] cpos) (tDPop1 td ty) := by
  intro pins s σ H Q I h
  refine wpAny_Call_method m.base m.few m.line PySem.F.plainAttrs_dict PySem.F.slot_dict_pop PySem.F.type_dict_pop (thn (ho pins s σ H _ I h) fun u s1 ⟨x, H1, I1, rx, a, ex, d, q1⟩ => ?_)
  subst ex
  obtain rfl : u = Value.ref a := rx
  obtain ⟨t1, t2, _⟩ := isD_at I1 d
  refine ⟨t1, t2, ?_⟩
  rw [m.trees]
  refine Calls.callWith_builtin rfl (Calls.evalArgs_plain (Calls.spliced_cons (thn (he pins s1 σ H1 _ I1 q1) fun iv s2 ⟨y, H2, I2, ry, kvs, k, v, ea, ey, l, q2⟩ => Calls.spliced_nil ?_)))
  subst ey
  exact d_pop I2 ea ry l (.inl rfl) fun w' s3 I3 rw' => ⟨v, _, I3, rw', q2⟩
end

/-! ### dict(d): a copy -/
section
variable {X : Cx} {pins : List (Addr × Obj)} {σ : St} {H : Hp} {s : Shared} {a : Addr} {kvs : List (Key × V)} {A : Around} {E : Value → Shared → Prop}
end


section
variable {X : Cx} {pins : List (Addr × Obj)} {σ : St} {H : Hp} {s : Shared} {a : Addr} {y : V} {u : Value} {A : Around} {E : Value → Shared → Prop}
end
end L2

namespace Att
open PySem PySem.W PySem.Calls PyProof.Rows

/-! ### the script -/
theorem ints_of_wellAll {P : Params} {h : Heap} : ∀ (ns : List Int) (vs : List Value), WellAll P h vs (ns.map WData.int) → IntsAre vs ns := by
  intro ns
  induction ns with
  | nil =>
    intro vs w
    rw [List.map_nil] at w
    cases w
    exact .nil
  | cons n ns ih =>
    intro vs w
    rw [List.map_cons] at w
    cases w with
    | cons a b =>
      cases a
      exact .cons _ _ (ih _ b)

theorem script_of {l : OpenLaw} {n : Nat} (hn : l.most = some n) {P : Params} {h : Heap} {args : List WData} {vals : List Value}
    (hpre : l.row.toRowW.claim.pre args = true) (hwl : WellAll P h vals args) :
    ∃ a vs ns, vals = [Value.ref a] ∧ args = [WData.list (ns.map WData.int)] ∧ h.get? a = some { cls := .type "list", data := .seq vs.toArray } ∧ IntsAre vs ns ∧ ns.length ≤ n := by
  have hsh : WShape.hasAll [] args [.list .int] = true := (pre_splitW hpre).1
  have hc : l.pre.holds [] { args := args } = true := (pre_splitW hpre).2
  obtain ⟨d, r, rfl, h1, h2⟩ := hasAllW_cons hsh
  obtain rfl := hasAllW_nil h2
  obtain ⟨xs, rfl, h3⟩ := hasW_list h1
  obtain ⟨ns, rfl⟩ := items_int h3
  have hlen : ns.length ≤ n := by
    unfold OpenLaw.pre at hc
    have h4 : (WTm.not (.lt (.lit (.int (n : Int))) (.len (.arg 0)))).holds [] { args := [.list (ns.map .int)] } = true := by
      have h4 := (holds_andW hc).1
      rw [hn] at h4
      exact h4
    have h5 := condW_of h4 (w_not (w_lt w_lit (w_len_list (w_arg rfl))))
    rw [List.length_map] at h5
    refine Nat.le_of_not_lt fun q => ?_
    have q' : (n : Int) < ((ns.length : Nat) : Int) := by omega
    first
      | (rw [decide_eq_true q'] at h5; exact absurd h5 (by decide))
      | (simp at h5; omega)
  cases hwl with
  | cons w1 w2 =>
    cases w2
    cases w1 with
    | list ho hall => exact ⟨_, _, ns, rfl, rfl, ho, ints_of_wellAll ns _ hall, hlen⟩

theorem post_true (l : OpenLaw) (args : List WData) : l.row.toRowW.claim.post args (.bool true) args = true :=
  postW_of (r := l.row.toRowW) (X := (true == true))
    (show WShape.has [] (.bool true) .bool = true by first | rfl | decide | simp [WShape.has, WShape.arms, WShape.armsAll])
    (show (WTm.eq .res (.lit (.bool true))).value [] { args := args, res := some (.bool true), after := args } = some (.bool (true == true)) from w_eq_bool (w_res rfl) w_lit) rfl

/-! ### the attachment: holds_open's last premise (the goal 'hc' behind k_head) from a wpAny of the law's body -/
/-- the same from a codeAny of the CALL (for a layer whose function contracts speak of calls) -/
theorem attach_call {l : OpenLaw} {n : Nat} {q : Program} {loose : List Str} {XP : (Str → Option Value) → Heap → Prop} {YP : World → Heap → Prop} {d : DefRec}
    (hn : l.most = some n) (hdf : d.params.defaults = [])
    (call : ∀ (w : World) (s₀ s₁ : Shared) (mg mb : Str → Option Value) (fa : Addr) (o : Obj) (pm cd doc : Value) (a : Addr) (vs : List Value) (ns : List Int),
      Ground q loose [] XP w s₀ mg mb s₁.heap → YP w s₁.heap →
      s₁.heap.get? fa = some o → o.data = .func (docDef d.name d.params d.body d.scope pm cd doc) → s₁.heap.CodeRec cd d.name → mg d.name = some (.ref fa) →
      s₁.heap.get? a = some { cls := .type "list", data := .seq vs.toArray } → IntsAre vs ns → ns.length ≤ n → s₁.gens = #[] →
      codeAny (model l.prog w) callerA (.call (.ref fa) ⟨[.ref a], []⟩) (fun r s' => r = .ok (.ret (.bool true)) ∧ OldK s₁.heap s'.heap ∧ s'.os = s₁.os ∧ AllBare s'.gens) s₁) :
    WalkO q loose XP YP l.row.toRowW d [] (fun f vs => PySem.call f vs) := by
  intro w s₀ s₁ mg mb G Y fa o pm cd doc dV kV ho hd hcd hD hmg hg args vals as hpre hlay hrd hwl hlo
  obtain rfl : dV = .none := Dflts.none hD hdf
  obtain rfl : kV = .none := Dflts.noKw hD
  obtain ⟨a, vs, ns, rfl, rfl, hobj, hints, hlen⟩ := script_of hn hpre hwl
  refine enter_call (codeAny_mono (call w s₀ s₁ mg mb fa o pm cd doc a vs ns G Y ho (fd_plain hd) hcd hmg hobj hints hlen hg) fun r s' hq => ?_)
  obtain ⟨rfl, h2, h3, h4⟩ := hq
  exact ⟨.inl ⟨.bool true, .bool true, [], rfl, fun _ => rfl, .bool true, post_true l _, fun _ => ⟨List.Pairwise.nil, fun _ hm => (nomatch hm)⟩⟩, h2, h3, h4⟩

/-! ### rules over ANY heap (no ledger) from facts about the written part K: the library's own take a ledger (News) for what they write -/
section
variable {prog : Program} {w : World} {A : Around} {E : Value → Shared → Prop} {s : Shared} {K : Frag}

/-! the whole heap as the ledger: makes every rule that writes through a ledger a rule over any heap -/
def ledger (h : Heap) (L d : Addr) : List (Addr × Obj) := (List.range h.objs.size).filterMap fun a => if a = L ∨ a = d then none else (h.get? a).map fun o => (a, o)
end
end Att

namespace L2
open PySem PySem.Spec PyProof.Rows

theorem vals_ints : ∀ {vs : List Value} {ns : List Int}, IntsAre vs ns → Vals (ns.map V.int) vs
  | _, _, .nil => .nil
  | _, _, .cons n t h => .cons ⟨t, rfl⟩ (vals_ints h)

/-- nothing is tracked but the script, known to the object (or it is an object of the module) -/
def Only (H : Hp) : Prop := ∀ b, H b = none ∨ ∃ o xs, H b = some (.frz o (.lst xs))

/-- THE HEAD: the law's promise, at the heap behind the top. F, the promise of the law's def, may use that base is part of the heap (so K.In base, base.Ns mainGlobals mg stand in Mod) -/
theorem law_call {P : Program} {w : World} {K : PySem.W.Frag} {mg mb : Str → Option Value} {CX : CXT} {k : Nat} {fa a : Addr} {fd : FuncData} {x : Str} {sp : Sp} {s₁ : Shared} {vs : List Value} {ns : List Int}
    (KX : K.In s₁.heap) (hns : s₁.heap.Ns mainGlobals mg) (hb : s₁.heap.Ns builtinsNs mb) (hbb : ∀ x : Str, x ≠ "__name__" → mb x = bootBuiltins x) (hlim : s₁.heap.NoLimit) (hg : s₁.gens = #[])
    (ha : s₁.heap.get? a = some { cls := .type "list", data := .seq vs.toArray }) (hi : IntsAre vs ns) (hl : ns.length ≤ sizeLine) (hr : Room k callerA)
    (F : ∀ base : Heap, K.In base → base.Ns mainGlobals mg → FnOk P w K mg base CX k fa fd [x] sp) (hbind : ∀ (s : Shared) (u : Value), BindsTo s fd ⟨[u], []⟩ [(x, u)])
    (hsp : ∀ H : Hp, Only H → SqL K H a (ns.map V.int) → sp [.ref a] H (fun v _ => v = .bl true) fun _ _ _ => False)
    (hCX : ∀ H e s', CX [] H s₁ (fun _ _ _ => False) e s' → False) :
    codeAny (model P w) callerA (.call (.ref fa) ⟨[.ref a], []⟩) (fun r s' => r = .ok (.ret (.bool true)) ∧ OldK s₁.heap s'.heap ∧ s'.os = s₁.os ∧ AllBare s'.gens) s₁ := by
  have rv := vals_ints hi
  have lenV := hi.length
  -- from an abstract heap in which nothing but the script may be tracked
  have core : ∀ H : Hp, Only H → SqL K H a (ns.map V.int) → HOk P w H s₁.heap → (∀ b, H b ≠ none → b = a) → (H a ≠ none → K.lookup a = none) →
      codeAny (model P w) callerA (.call (.ref fa) ⟨[.ref a], []⟩) (fun r s' => r = .ok (.ret (.bool true)) ∧ OldK s₁.heap s'.heap ∧ s'.os = s₁.os ∧ AllBare s'.gens) s₁ := by
    intro H hO hS hok hA hK
    have base_of : ∀ {b : Addr} {o : Obj}, s₁.heap.get? b = some o → H b = none → (hidT s₁.heap H).get? b = some o := fun e n => hidT_get e n
    have noA : ∀ {b : Addr} {o : Obj} {es : Array DictEntry} {ep : Nat}, s₁.heap.get? b = some o → o.data = .dict es ep → H b = none := fun {b o es ep} e d => by
      cases q : H b with
      | none => rfl
      | some u =>
        have e' : b = a := hA b (by rw [q]; simp)
        subst e'
        rw [ha] at e; cases e
        have d' : Data.seq vs.toArray _ = Data.dict es ep := d
        cases d'
    have nsK : ∀ {b : Addr} {m : Str → Option Value}, s₁.heap.Ns b m → (hidT s₁.heap H).Ns b m := fun {b m} ⟨o, es, ep, e, d, r⟩ => ⟨o, es, ep, base_of e (noA e d), d, r⟩
    have hKb : K.In (hidT s₁.heap H) := fun b o e => base_of (KX b o e) (by
      cases q : H b with
      | none => rfl
      | some u =>
        have e' : b = a := hA b (by rw [q]; simp)
        subst e'
        rw [hK (by rw [q]; simp)] at e; cases e)
    have hM : Mod K mg (hidT s₁.heap H) := ⟨hKb, nsK hns, ⟨mb, nsK hb, hbb⟩, let ⟨mc, h1, h2⟩ := hlim; ⟨mc, nsK h1, h2⟩⟩
    have e0 : Env0 P w K mg (hidT s₁.heap H) callerA [] s₁ H := ⟨rfl, hM, fun b o e => of_hidT e, Nat.le_of_eq (hidT_size _ _), trivial, fun b hb => absurd (show b ∈ ([] : List Addr) from hb) (by simp), hok, .of_eq hg⟩
    refine codeAny_mono ((F _ hKb (nsK hns)).run callerA [] s₁ H ⟨[.ref a], []⟩ [.ref a] [.ref a] _ _ hr e0 (hbind s₁ (.ref a)) (.cons rfl .nil) (hsp H hO hS)) fun r s' h => ?_
    cases r with
    | error e => exact (hCX H e s' h).elim
    | ok fl =>
      cases fl with
      | next => exact False.elim h
      | brk => exact False.elim h
      | cont => exact False.elim h
      | ret u =>
        obtain ⟨v, H', os, bare, un, hok', r', q⟩ := h
        have q' : v = .bl true := q
        subst q'
        obtain rfl : u = Value.bool true := r'
        refine ⟨rfl, OldK.of_keep fun b o e => ?_, os, bare⟩
        cases q : H b with
        | none => exact un.keep b o e q (by intro z; exact absurd (show b ∈ ([] : List Addr) from z) (by simp)) (by simp)
        | some u =>
          rcases hO b with z | ⟨ob, xs, z⟩
          · rw [q] at z; cases z
          · have z2 := un.frzs b ob _ z
            obtain ⟨e1, _⟩ := hok b _ z
            obtain ⟨e2, _⟩ := hok' b _ z2
            rw [e] at e1; cases e1
            exact e2
  cases hk : K.lookup a with
  | some o =>
    -- the script is one of the module's own objects
    have e := KX a o hk
    rw [ha] at e
    cases e
    refine core (fun _ => none) (fun _ => .inl rfl) (.inr ⟨_, vs.toArray, _, hk, rfl, rfl, rfl, by rw [List.size_toArray, lenV]; exact hl, by simpa using rv⟩) (fun b u z => by have z' : (none : Option HO) = some u := z; cases z') (fun b z => absurd rfl z) fun z => absurd rfl z
  | none =>
    refine core (fun b => if b = a then some (.frz { cls := .type "list", data := .seq vs.toArray } (.lst (ns.map V.int))) else none) (fun b => ?_) (.inl (.inr ⟨{ cls := .type "list", data := .seq vs.toArray }, if_pos rfl⟩)) (fun b u z => ?_) (fun b z => ?_) fun _ => hk
    · by_cases hb : b = a
      · exact .inr ⟨_, _, if_pos hb⟩
      · exact .inl (if_neg hb)
    · by_cases hb : b = a
      · have z' := (if_pos hb).symm.trans z
        cases z'
        subst hb
        exact ⟨ha, by rw [List.length_map]; exact hl, vs, _, rv, ha⟩
      · have z' := (if_neg hb).symm.trans z
        cases z'
    · by_cases hb : b = a
      · exact hb
      · exact absurd (if_neg hb) z
end L2

namespace L2
open PySem PySem.Spec PyProof.Rows

/-- the goal that k_head leaves (case hc), from the law's promise. F gives the function object fd (K's own) once, then the promise over every base -/
theorem walk_of {l : PySem.W.OpenLaw} {n k : Nat} {q : Program} {loose : List Str} {XP : (Str → Option Value) → Heap → Prop} {YP : World → Heap → Prop} {d : DefRec} {K : Params → PySem.W.Frag} {CX : World → CXT} {sp : World → Sp} {x : Str}
    (hn : l.most = some n) (hn2 : n ≤ sizeLine) (hdf : d.params.defaults = []) (hr : Room k callerA)
    (hY : ∀ (w : World) (h : Heap), YP w h → (K w.params).In h)
    (F : ∀ (w : World) (mg : Str → Option Value) (fa : Addr) (h : Heap), (K w.params).In h → h.Ns mainGlobals mg → mg d.name = some (.ref fa) →
      ∃ fd : FuncData, (∀ (s : Shared) (u : Value), BindsTo s fd ⟨[u], []⟩ [(x, u)]) ∧
        ∀ base : Heap, (K w.params).In base → base.Ns mainGlobals mg → FnOk l.prog w (K w.params) mg base (CX w) k fa fd [x] (sp w))
    (hsp : ∀ (w : World) (H : Hp) (a : Addr) (ns : List Int), ns.length ≤ n → Only H → SqL (K w.params) H a (ns.map V.int) → sp w [.ref a] H (fun v _ => v = .bl true) fun _ _ _ => False)
    (hCX : ∀ (w : World) (H : Hp) (s : Shared) (e : Value) (s' : Shared), CX w [] H s (fun _ _ _ => False) e s' → False) :
    PySem.W.WalkO q loose XP YP l.row.toRowW d [] (fun f vs => PySem.call f vs) := by
  refine Att.attach_call hn hdf fun w s₀ s₁ mg mb fa o pm cd doc a vs ns G Y ho hd hcd hmg hobj hints hlen hg => ?_
  have KX := hY w _ Y
  obtain ⟨fd, hb, hF⟩ := F w mg fa _ KX G.T.g hmg
  exact law_call KX G.T.g G.T.b G.T.builtins G.T.nolimit hg hobj hints (Nat.le_trans hlen hn2) hr hF hb (fun H hO hS => hsp w H a ns hlen hO hS) fun H e s' => hCX w H s₁ e s'
end L2

/- THE LAST THEOREM (shape; LID, My.* are yours):
   My.Adr: a structure of the addresses that your layer names (classes, functions); My.Txt K t: a structure (Prop) of the equations over K;
   My.txt_mk : {K} {implicit addresses ..} (e1 : nsIn K mainGlobals "law" = some (some (.ref f))) (e2 : K.lookup f = some ⟨oc, od, .func (fnOf "law" "law" params body scope dV kV doc pm an cdv ct), sl⟩) (e3 : codeIn K cdv "law" = true) .. : ∃ t, My.Txt K t

set_option maxRecDepth 100000 in
set_option maxHeartbeats 0 in
(the tactic k_is has no namespace: write k_is) -/

/-! SHORT WORDS over the layer: a def of the text, its body, what a loop and a test want. -/
namespace L2
open PySem PySem.Spec PyProof.Rows

/-! ### the text by places -/
/-- the j-th statement of a class's body -/
def inClass (s : Stmt) (j : Nat) : Stmt := match s with
  | .ClassDef _ _ _ body _ _ _ _ _ _ _ => body.getD j (.Pass ⟨0, 0, 0, 0⟩)
  | _ => .Pass ⟨0, 0, 0, 0⟩
def defArgs (s : Stmt) : Arguments := match s with
  | .FunctionDef _ a _ _ _ _ _ _ _ _ => a
  | _ => { posonlyargs := [], args := [], vararg := none, kwonlyargs := [], kw_defaults := [], kwarg := none, defaults := [] }
def defBody (s : Stmt) : List Stmt := match s with
  | .FunctionDef _ _ b _ _ _ _ _ _ _ => b
  | _ => []
def defScope (s : Stmt) : Scope := match s with
  | .FunctionDef _ _ _ _ _ _ sc _ _ _ => sc
  | _ => { kind := .function, names := [], isGenerator := false, isCoroutine := false }

/-! ### no exception leaves a def -/
abbrev CX0 : CXT := fun _ _ _ _ _ _ => False
abbrev E0 : XK := fun _ _ _ => False
theorem pass0 {X : Cx} : Passes CX0 X E0 := fun _ _ _ _ _ _ _ h => h.elim

/-! ### a def (or method) of the text as it stands behind the top -/
structure Fun (K : PySem.W.Frag) (x qual : Str) (st : Stmt) (f : Addr) (fd : FuncData) : Prop where
  ex : ∃ (oc : Value) (od : Option Addr) (kV doc pm : Value) (an : Option Addr) (cdv ct : Value) (osl : Array (Option Value)),
    fd = PySem.W.fnOf x qual (defArgs st) (defBody st) (defScope st) .none kV doc pm an cdv ct ∧ K.lookup f = some ⟨oc, od, .func fd, osl⟩ ∧ PySem.W.codeIn K cdv qual = true
  kp : PySem.W.keepIn K (.ref f) = true
section
variable {P : Program} {w : World} {K : PySem.W.Frag} {mg : Str → Option Value} {base : Heap}
/-- THE RULE for a def: its body as a term of rules, and the reading of that term -/
theorem Fun.ok {x qual : Str} {st : Stmt} {f : Addr} {fd : FuncData} {N ps : List Str} {k : Nat} {sp : Sp} (F : Fun K x qual st f fd) (S : FnScope N ps (defScope st)) (len : ∀ vs H Q E, sp vs H Q E → vs.length = ps.length)
    (hbody : ∀ (cdv : Value) (A : Around) (outer : List Env) (s : Shared) (H : Hp) (vs : List V) (Q : VK) (E : XK), Room k (A.deeper (envOfC qual (defScope st) s.heap.objs.size f cdv)) → sp vs H Q E →
      ∃ t, PSs (cxOf CX0 P w K mg base N qual (defScope st) f cdv A outer s H E).nox (defBody st) t ∧ t { nx := fun _ H' => Q .non H', rt := Q } (start N vs) H) : FnOk P w K mg base CX0 (k + 1) f fd ps sp := by
  obtain ⟨oc, od, kV, doc, pm, an, cdv, ct, osl, rfl, lk, hcd⟩ := F.ex
  refine fn_of lk hcd S len fun A outer s H vs Q E hr hsp => ?_
  obtain ⟨t, h, q⟩ := hbody cdv A outer s H vs Q E hr hsp
  exact ⟨t, h.nox, q⟩
/-- how its arguments bind (no defaults): h is «fun _ _ _ _ _ _ us hl => match us, hl with | [_, _], _ => rfl», one _ a parameter -/
theorem Fun.binds {x qual : Str} {st : Stmt} {f : Addr} {fd : FuncData} {ps : List Str} (F : Fun K x qual st f fd)
    (h : ∀ (kV doc pm : Value) (an : Option Addr) (cdv ct : Value) (us : List Value), us.length = ps.length → bindArgs (PySem.W.fnOf x qual (defArgs st) (defBody st) (defScope st) .none kV doc pm an cdv ct) ⟨us, []⟩ = pure (ps.zip us)) : Binds K fd ps [] := by
  obtain ⟨oc, od, kV, doc, pm, an, cdv, ct, osl, rfl, lk, hcd⟩ := F.ex
  exact .all (h kV doc pm an cdv ct)
theorem fun_mk {x qual : Str} {st : Stmt} {f : Addr} {oc : Value} {od an : Option Addr} {osl : Array (Option Value)} {kV doc pm cdv ct : Value} (l : K.lookup f = some ⟨oc, od, .func (PySem.W.fnOf x qual (defArgs st) (defBody st) (defScope st) .none kV doc pm an cdv ct), osl⟩)
    (c : PySem.W.codeIn K cdv qual = true) (k : PySem.W.keepIn K (.ref f) = true) : Fun K x qual st f (PySem.W.fnOf x qual (defArgs st) (defBody st) (defScope st) .none kV doc pm an cdv ct) := ⟨⟨oc, od, kV, doc, pm, an, cdv, ct, osl, rfl, l, c⟩, k⟩
end
theorem hu_of {A : Around} {k : Nat} (hr : Room k A) : A.units + 1 < cLine := Nat.lt_of_le_of_lt (Nat.add_le_add_left (by decide : 1 ≤ 64) _) hr.units
theorem small1000 {n : Nat} (h : n ≤ 1000) : n < sizeLine := Nat.lt_of_le_of_lt h (by decide)

/-! ### expressions in short: the name that stands in the i-th slot -/
section
variable {X : Cx}
/-- len of a dict -/
theorem call_lenD : CallR X (.builtin "len") (fun xs H Q => ∃ a kvs, xs = [V.ref a] ∧ H a = some (.dK kvs) ∧ Q (.int kvs.length) H) := by
  intro pins s σ H xs us Q I r h
  obtain ⟨a, kvs, rfl, ha, q⟩ := h
  obtain ⟨u, rfl, ru⟩ := vals1 r
  cases ru
  exact d_len I (.inl ha) fun t s' I' => ⟨.int kvs.length, H, I', ⟨t, rfl⟩, q⟩
end

/-! ### tests -/
theorem iteF {A B : Prop} (h : B) : if false = true then A else B := by
  rw [if_neg Bool.false_ne_true]
  exact h
theorem iteT {A B : Prop} (h : A) : if true = true then A else B := by
  rw [if_pos rfl]
  exact h
/-! ### heaps -/
/-- all that was tracked is as it was -/
def Same (H H' : Hp) : Prop := ∀ b o, H b = some o → H' b = some o
theorem Same.refl (H : Hp) : Same H H := fun _ _ h => h
theorem Same.trans {H H1 H2 : Hp} (a : Same H H1) (b : Same H1 H2) : Same H H2 := fun c o h => b c o (a c o h)
theorem Same.free {H H' : Hp} (e : Same H H') {l : Addr} (h : H' l = Option.none) : H l = Option.none := by
  cases q : H l with
  | none => rfl
  | some o =>
    rw [e l o q] at h
    cases h
theorem Same.seq {K : PySem.W.Frag} {H H' : Hp} {a : Addr} {xs : List V} (e : Same H H') (h : SqL K H a xs) : SqL K H' a xs := by
  rcases h with (h | ⟨o, h⟩) | h
  · exact .inl (.inl (e _ _ h))
  · exact .inl (.inr ⟨o, e _ _ h⟩)
  · exact .inr h

/-! ### a dict's pairs: keys that differ -/
section
variable {κ : Type} [DecidableEq κ]
end
end L2

set_option Elab.async false
set_option linter.all false
set_option maxRecDepth 100000
set_option maxHeartbeats 4000000
namespace HT
open PySem PyProof.Rows
section
open PySem.SeqAt
open PySem.AutoSeq1 (wpAny_loadPart')
open PySem.MeetsSeq PySem.MeetsSeq2 PySem.MeetsSeq3
end
section
variable {prog : Program} {w : World} {A : Around} {E : Value → Shared → Prop} {s : Shared}
end
section
open PySem.SeqAt
open PySem.AutoSeq1 (wpAny_loadPart')
open PySem.MeetsSeq PySem.MeetsSeq2 PySem.MeetsSeq3
end
section
variable {prog : Program} {w : World} {A : Around} {E : Value → Shared → Prop} {s : Shared}
end
def lexGe : List Int → List Int → Bool
  | [], [] => true
  | [], _ :: _ => false
  | _ :: _, [] => true
  | x :: xs, y :: ys => if x = y then lexGe xs ys else decide (y ≤ x)
theorem lexGe_cons (x y : Int) (xs ys : List Int) : lexGe (x :: xs) (y :: ys) = if x = y then lexGe xs ys else decide (y ≤ x) := rfl
theorem lexGe_nil_nil : lexGe [] [] = true := rfl
theorem lexGe_nil_cons (y : Int) (ys : List Int) : lexGe [] (y :: ys) = false := rfl
theorem lexGe_cons_nil (x : Int) (xs : List Int) : lexGe (x :: xs) [] = true := rfl
theorem rcGe_int (A : Around) (s : Shared) (a : Int) (t : Tok) (c : Int) (u : Tok) (prog : Program) (w : World) (E : Value → Shared → Prop) (Q : Value → Shared → Prop) (h : Q (.bool (decide (c ≤ a))) s) :
    wpAny (model prog w) A (richCompare .GtE (.int a t) (.int c u)) Q E s :=
  (PyProof.Rows.ge_int h : wpAny (model prog w) A (compareOp .GtE (.int a t) (.int c u)) Q E s)
section
open PySem.SeqAt
open PySem.AutoSeq1 (wpAny_loadPart')
open PySem.MeetsSeq PySem.MeetsSeq2 PySem.MeetsSeq3
theorem tuple_ge_ints (l b : Addr) (items items2 : Array Value) (n n2 : Nat) (dd dd2 : Option Addr) (sl sl2 : Array (Option Value)) (ns ms : List Int) (hi : IntsAre items.toList ns) (hj : IntsAre items2.toList ms) :
    Meets (Builtin.«tuple.__ge__» ⟨[.ref l, .ref b], []⟩)
      (fun _ R s => s.heap.get? l = some { cls := .type "tuple", dict := dd, data := .seq items n, slots := sl } ∧ s.heap.get? b = some { cls := .type "tuple", dict := dd2, data := .seq items2 n2, slots := sl2 } ∧
        R (.ok (.ret (.bool (lexGe ns ms)))) s) :=
  .of_wp fun prog w A R s h => by
    obtain ⟨hp, g, d, tk, os⟩ := s; obtain ⟨hl, hb, h⟩ := h
    have f2 := AutoSeq1.sub_tuple_tuple
    have z1 : items.size = ns.length := by rw [← hi.length]; simp
    have z2 : items2.size = ms.length := by rw [← hj.length]; simp
    wp_walk using wpAny_loadPart' hl, wpAny_loadPart' hb, wpAny_forIn_list _ (fun rest b s' => b.1 = none ∧ s' = ⟨hp, g, d, tk, os⟩ ∧ ∃ (vs ws : List Value) (ns' ms' : List Int), rest = vs.zip ws ∧
      IntsAre vs ns' ∧ IntsAre ws ms' ∧ ns'.length + items2.size = ms'.length + items.size ∧ R (.ok (.ret (.bool (lexGe ns' ms')))) ⟨hp, g, d, tk, os⟩) _
    case turn =>
      rintro ⟨y, x⟩ rest b s' ⟨hb', rfl, vs, ws, ns', ms', hz, hvi, hwi, hlen, hR⟩
      cases hvi with
      | nil => rw [List.zip_nil_left] at hz; cases hz
      | cons a t hvi' =>
        cases hwi with
        | nil => rw [List.zip_nil_right] at hz; cases hz
        | cons c u hwi' =>
          rw [List.zip_cons_cons] at hz
          injection hz with hyx hrest
          injection hyx with hy hx
          subst hy hx
          rw [lexGe_cons] at hR
          simp only [List.length_cons] at hlen
          obtain ⟨e, he, hiff⟩ := eqAt_int A.in1 ⟨hp, g, d, tk, os⟩ a t c u
          refine wpAny_bind (he prog w _ _ ?_)
          cases e with
          | true =>
            rw [if_pos (hiff.mp rfl)] at hR
            wp_walk
            exact ⟨rfl, rfl, _, _, _, _, hrest, hvi', hwi', by omega, hR⟩
          | false =>
            rw [if_neg (fun q => absurd (hiff.mpr q) Bool.false_ne_true)] at hR
            have hri := rcGe_int A.in1 ⟨hp, g, d, tk, os⟩ a t c u prog w
            wp_walk using hri
            exact ⟨_, rfl, by simpa using hR⟩
    case fin =>
      rintro ⟨b1, b2⟩ s' ⟨hb', rfl, vs, ws, ns', ms', hz, hvi, hwi, hlen, hR⟩
      simp only at hb'
      subst hb'
      have hv : lexGe ns' ms' = decide (items2.size ≤ items.size) := by
        cases hvi with
        | nil =>
          cases hwi with
          | nil =>
            simp only [List.length_nil] at hlen
            rw [lexGe_nil_nil]
            exact (decide_eq_true (by omega)).symm
          | cons c u hw =>
            simp only [List.length_nil, List.length_cons] at hlen
            rw [lexGe_nil_cons]
            exact (decide_eq_false (by omega)).symm
        | cons a t hv =>
          cases hwi with
          | nil =>
            simp only [List.length_nil, List.length_cons] at hlen
            rw [lexGe_cons_nil]
            exact (decide_eq_true (by omega)).symm
          | cons c u hw =>
            rw [List.zip_cons_cons] at hz
            cases hz
      rw [hv] at hR
      wp_walk
      exact ⟨_, rfl, by simpa [Builtin.Tuple.tupleCompareSizes] using hR⟩
    case h =>
      exact ⟨rfl, rfl, items.toList, items2.toList, ns, ms, rfl, hi, hj, by omega, h⟩
end
section
variable {prog : Program} {w : World} {A : Around} {E : Value → Shared → Prop} {s : Shared}
theorem ge_tupInts {l b : Addr} {items items2 : Array Value} {ns ms : List Int} {Q : Value → Shared → Prop} (hl : IsTup s.heap l items) (hb : IsTup s.heap b items2) (hi : IntsAre items.toList ns) (hj : IntsAre items2.toList ms)
    (hu : A.units < cLine) (h : Q (.bool (lexGe ns ms)) s) : wpAny (model prog w) A (compareOp .GtE (.ref l) (.ref b)) Q E s := by
  obtain ⟨⟨cls, dd, data, sl⟩, ho, hc, n, hd⟩ := id hl
  obtain ⟨⟨cls2, dd2, data2, sl2⟩, ho2, hc2, n2, hd2⟩ := id hb
  simp only at hc hd hc2 hd2
  subst hc hd hc2 hd2
  exact richCompare_meets_room (op := .GtE) ⟨_, ho, rfl⟩ ⟨_, ho2, rfl⟩ PySem.F.slot_tuple_ge PySem.F.entry_tuple_ge (PySem.F.args_tuple_ge_2 _ _) (tuple_ge_ints l b items items2 n n2 dd dd2 sl sl2 ns ms hi hj)
    ⟨ho, ho2, show Value.bool (lexGe ns ms) ≠ Value.notImplemented ∧ Q (.bool (lexGe ns ms)) s from ⟨(fun x => nomatch x), h⟩⟩ hu

end
end HT
namespace L2
open PySem PySem.Spec PyProof.Rows
section
variable {X : Cx}
def rGeT (K : PySem.W.Frag) : R2 := fun x y H Q => ∃ a b ns ms, x = .ref a ∧ y = .ref b ∧ SqT K H a (ns.map V.int) ∧ SqT K H b (ms.map V.int) ∧ Q (.bl (HT.lexGe ns ms)) H
theorem op_geT (hu : X.A.units < cLine) : OpR X (compareOp .GtE) (rGeT X.K) := by
  intro pins s σ H x y v u Q I rx ry h
  obtain ⟨a, b, ns, ms, rfl, rfl, ha, hb, q⟩ := h
  cases rx
  cases ry
  obtain ⟨its, r1, p1, _⟩ := I.tuple ha
  obtain ⟨its2, r2, p2, _⟩ := I.tuple hb
  have i1 : IntsAre its.toArray.toList ns := intsAre_of r1
  have i2 : IntsAre its2.toArray.toList ms := intsAre_of r2
  exact HT.ge_tupInts p1 p2 i1 i2 hu ⟨.bl (HT.lexGe ns ms), H, I, rfl, q⟩
end
end L2

set_option Elab.async false
set_option linter.all false
set_option maxRecDepth 100000
set_option maxHeartbeats 4000000
/-! Own errors, raised and caught, over the hand layer. -/
namespace L2
open PySem PySem.Spec PyProof.Rows

/-! ### f-strings whose words nobody asks for -/
def PF (X : Cx) (e : Expr) (t : St → Hp → (Hp → Prop) → Prop) : Prop :=
  ∀ (pins : List (Addr × Obj)) (s : Shared) (σ : St) (H : Hp) (Q : Hp → Prop), Inv X pins σ H s → t σ H Q →
    wpAny (model X.prog X.w) X.A (eval e X.env) (fun v s' => ∃ y tk H', v = Value.str y tk ∧ y.length ≤ 2000 ∧ Inv X pins σ H' s' ∧ Q H') X.xe s
def PFs (X : Cx) (es : List Expr) (t : St → Hp → (Hp → Prop) → Prop) : Prop :=
  ∀ (pins : List (Addr × Obj)) (s : Shared) (σ : St) (H : Hp) (Q : Hp → Prop) (acc : Str) (n : Nat) (R : Str → Shared → Prop), Inv X pins σ H s → t σ H Q → acc.length ≤ 2000 * n → n + es.length ≤ 8000 →
    (∀ z s' H', z.length ≤ sizeLine → Inv X pins σ H' s' → Q H' → R z s') → Joins (model X.prog X.w) X.A X.xe (evalEach es X.env) acc R s
section
variable {X : Cx} {e : Expr} {es : List Expr} {pos : Pos}
theorem pf_str {x j pos} (h : x.length ≤ 2000 := by decide) : PF X (.Constant (.str x) j pos) (fun _ H Q => Q H) := fun _ _ _ H _ I q => Calls.Constant_str ⟨x, _, H, rfl, h, I.tok _, q⟩
theorem pf_int {te : TE} (he : PE X e te) : PF X (.FormattedValue e (-1) none pos) (fun σ H Q => te σ H fun v H1 => ∃ i, v = .int i ∧ i.natAbs.log2 < 1920 ∧ Q H1) := by
  intro pins s σ H Q I h
  refine wpAny_FormattedValue_plain (thn (he pins s σ H _ I h) fun v s1 ⟨x, H1, I1, r1, i, ex, hi, q⟩ => ?_)
  subst ex
  obtain ⟨t, rfl⟩ := r1
  have hl := int_text_len_1921 hi
  exact wpAny_formatField_int hi ⟨_, _, H1, rfl, by omega, I1.tok _, q⟩
theorem pfs_nil : PFs X [] (fun _ H Q => Q H) := by
  intro pins s σ H Q acc n R I h hl hn hR
  have hs := sizeLine_eq
  exact hR acc s H (by simp only [List.length_nil] at hn; omega) I h
theorem pfs_cons {t u : St → Hp → (Hp → Prop) → Prop} (h1 : PF X e t) (h2 : PFs X es u) (hs : evalEach (e :: es) X.env = eval e X.env :: evalEach es X.env := by rfl) : PFs X (e :: es) (fun σ H Q => t σ H fun H1 => u σ H1 Q) := by
  intro pins s σ H Q acc n R I h hl hn hR
  rw [hs]
  refine thn (h1 pins s σ H _ I h) fun v s1 ⟨y, tk, H1, ev, hy, I1, q⟩ => ?_
  have hz := sizeLine_eq
  have ha : (acc ++ y).length = acc.length + y.length := strLen_append ..
  simp only [List.length_cons] at hn
  exact ⟨y, tk, ev, by omega, h2 pins s1 σ H1 Q (acc ++ y) (n + 1) R I1 q (by omega) (by omega) hR⟩
theorem pe_fstr {v1 v2 : Expr} {rest : List Expr} {t : St → Hp → (Hp → Prop) → Prop} (h : PFs X (v1 :: v2 :: rest) t) (hn : (v1 :: v2 :: rest).length ≤ 8000 := by decide) :
    PE X (.JoinedStr (v1 :: v2 :: rest) pos) (fun σ H Q => t σ H fun H1 => ∀ z : Str, Q (.str z) H1) := by
  intro pins s σ H Q I hq
  exact wpAny_JoinedStr (h pins s σ H _ Str.empty 0 _ I hq (by decide) (by omega) fun z s' H' hz I' q => ⟨hz, .str z, H', I'.tok _, ⟨_, rfl⟩, q z⟩)
end

/-! ### an exception in flight, behind a call -/
theorem ObjOk.there {P : Program} {w : World} {H : Hp} {h : Heap} {a : Addr} {o : HO} (x : ObjOk P w H h a o) : ∃ ob, h.get? a = some ob := by
  cases o with
  | lst xs => obtain ⟨_, _, _, _, e⟩ := x; exact ⟨_, e⟩
  | tup xs => obtain ⟨_, _, _, ob, e, _⟩ := x; exact ⟨_, e⟩
  | dK kvs => obtain ⟨_, _, _, _, o, _, _, e, _⟩ := x; exact ⟨_, e⟩
  | dT kvs => obtain ⟨_, _, _, _, o, _, _, e, _⟩ := x; exact ⟨_, e⟩
  | set S n => obtain ⟨o, _, _, _, e, _⟩ := x; exact ⟨_, e⟩
  | ins C dx fs => obtain ⟨_, _, _, e, _⟩ := x; exact ⟨_, e⟩
  | own y => obtain ⟨_, e⟩ := x; exact ⟨_, e⟩
  | xd fs => obtain ⟨_, ⟨_, _, _, e, _⟩, _⟩ := x; exact ⟨_, e⟩
  | rng lo hi => obtain ⟨_, _, _, e⟩ := x; exact ⟨_, e⟩
  | frz ob u => obtain ⟨e, _⟩ := x; exact ⟨_, e⟩
  | tbl ps => exact ⟨_, (show h.get? a = some _ from x)⟩
  | met f y => exact ⟨_, (show h.get? a = some _ from x)⟩
  | ext φ => obtain ⟨_, ⟨_, e⟩, _⟩ := x; exact ⟨_, e⟩

/-- B: all that was there when it was raised, but the frames; it stays as it is while the exception flies -/
def Kept (l : List Env) (H' : Hp) (h0 h1 B : Heap) : Prop := ∀ b o, h1.get? b = some o → (H' b ≠ none ∨ ∃ o0, h0.get? b = some o0) → b ∉ frs l → B.get? b = some o
def CXF (P : Program) (w : World) : CXT := fun outer H s E e s' =>
  ∃ (x C : Addr) (a0 : Value) (H' : Hp) (B : Heap), e = .ref x ∧ s'.os = s.os ∧ AllBare s'.gens ∧ Un (frs outer) [] H H' s.heap s'.heap ∧ HOk P w H' s'.heap ∧
    Heap.FlyingW B outer x (.ref C) a0 s'.heap ∧ Kept outer H' s.heap s'.heap B ∧ H' x = none ∧ s.heap.get? x = none ∧ E (.ref C) none H'

theorem fly_move {P : Program} {w : World} {l : List Env} {H H' : Hp} {h0 h1 h2 B D : Heap} (un : Un (frs l) [] H H' h0 h1) (hok : HOk P w H' h1) (ff : h1.FunFrames D l) (bh : Kept l H' h0 h1 B) (nf : ∀ b ∈ frs l, H' b = none)
    (st : B.StaysIn h2) (us : h1.UpToSlots h2) : Un (frs l) [] H H' h0 h2 ∧ HOk P w H' h2 ∧ Kept l H' h0 h2 B := by
  have keepT : ∀ b o, h1.get? b = some o → (H' b ≠ none ∨ ∃ o0, h0.get? b = some o0) → b ∉ frs l → h2.get? b = some o := fun b o e c hb => st b o (bh b o e c hb)
  have slotT : ∀ b o, h1.get? b = some o → b ∈ frs l → ∃ sl, h2.get? b = some { o with slots := sl } := fun b o e hb => by
    obtain ⟨_, o', e', hd⟩ := ff.mem hb
    rw [e] at e'
    cases e'
    exact us b o e hd
  refine ⟨⟨fun b o e n hb hx => keepT b o (un.keep b o e n hb hx) (.inr ⟨o, e⟩) hb, fun b o e n hb hx => ?_, un.free, fun b o e hx => ?_, un.tups, un.frzs, un.tbls⟩, fun a o e => ?_, fun b o e c hb => ?_⟩
  · obtain ⟨sl, e1⟩ := un.slot b o e n hb hx
    obtain ⟨sl', e2⟩ := slotT b _ e1 hb
    exact ⟨sl', e2⟩
  · obtain ⟨o', e1⟩ := un.there b o e hx
    by_cases hb : b ∈ frs l
    · obtain ⟨sl, e2⟩ := slotT b _ e1 hb
      exact ⟨_, e2⟩
    · exact ⟨o', keepT b o' e1 (.inr ⟨o, e⟩) hb⟩
  · refine (hok a o e).stay (fun b u hc q => ?_) (fun _ q => q) fun _ _ q => q
    have tr : H' b ≠ none := by
      rcases hc with rfl | hc
      · rw [e]; exact fun z => nomatch z
      · rw [hc]; exact fun z => nomatch z
    exact keepT b u q (.inl tr) fun hb => tr (nf b hb)
  · have old : ∃ o1, h1.get? b = some o1 := by
      rcases c with c | ⟨o0, c⟩
      · cases q : H' b with
        | none => exact absurd q c
        | some ho => exact (hok b ho q).there
      · exact un.there b o0 c (fun z => nomatch z)
    obtain ⟨o1, e1⟩ := old
    have e2 := bh b o1 e1 c hb
    have e3 := st b o1 e2
    rw [e] at e3
    cases e3
    exact e2

/-- the frames of a body that runs -/
structure Top1 (X : Cx) : Prop where
  st : X.stack = X.env :: X.outer
  fr : X.env.frame = some X.env.locals
  ex : X.ex = []
section
variable {X : Cx} {pins : List (Addr × Obj)} {σ : St} {H : Hp} {s : Shared}
theorem frs_top (t : Top1 X) : frs X.stack = X.env.locals :: X.fs := by
  rw [t.st]
  unfold frs
  rw [List.filterMap_cons, t.fr]
  rfl
theorem Inv.nf (I : Inv X pins σ H s) {H' : Hp} {h' : Heap} (un : Un (frs X.stack) [] H H' s.heap h') : ∀ b ∈ frs X.stack, H' b = none := fun b hb => by
  obtain ⟨_, o, ho, _⟩ := I.stack.mem hb
  exact un.free b o ho (I.stkFree b hb) (fun z => nomatch z)
/-- from the frame to its callers -/
theorem Inv.out (I : Inv X pins σ H s) (t : Top1 X) {H' : Hp} {h' : Heap} (un : Un (frs X.stack) [] H H' s.heap h') : Un X.fs [] X.H₀ H' X.s₀.heap h' := by
  have hx : ∀ b : Addr, b ∉ X.ex := fun b z => by rw [t.ex] at z; cases z
  have ns : ∀ b o, X.s₀.heap.get? b = some o → b ∉ X.fs → b ∉ frs X.stack := fun b o e hb z => by
    rw [frs_top t] at z
    rcases List.mem_cons.mp z with z | z
    · exact absurd (Nat.lt_of_lt_of_le (Heap.lt_size e) I.ok.above) (by rw [z]; exact Nat.lt_irrefl _)
    · exact hb z
  have fs : ∀ b ∈ X.fs, b ∈ frs X.stack := fun b hb => by rw [frs_top t]; exact List.mem_cons_of_mem _ hb
  have nn : ∀ b : Addr, b ∉ ([] : List Addr) := fun b z => nomatch z
  refine ⟨fun b o e n hb _ => un.keep b o (I.base.keep b o e n hb (hx b)) (I.base.free b o e n (hx b)) (ns b o e hb) (nn b), fun b o e n hb _ => ?_, fun b o e n _ => ?_, fun b o e _ => ?_, fun b xs e => un.tups b xs (I.base.tups b xs e), fun b o u e => un.frzs b o u (I.base.frzs b o u e), fun b ps e => ?_⟩
  · obtain ⟨sl, e1⟩ := I.base.slot b o e n hb (hx b)
    obtain ⟨sl', e2⟩ := un.slot b _ e1 (I.base.free b o e n (hx b)) (fs b hb) (nn b)
    exact ⟨sl', e2⟩
  · obtain ⟨o', e1⟩ := I.base.there b o e (hx b)
    exact un.free b o' e1 (I.base.free b o e n (hx b)) (nn b)
  · obtain ⟨o', e1⟩ := I.base.there b o e (hx b)
    exact un.there b o' e1 (nn b)
  · obtain ⟨m1, e1⟩ := I.base.tbls b ps e
    obtain ⟨m2, e2⟩ := un.tbls b _ e1
    exact ⟨m1 ++ m2, by rw [e2, Array.append_assoc]⟩
theorem Inv.new0 (I : Inv X pins σ H s) (t : Top1 X) {x : Addr} (h : s.heap.get? x = none) : X.s₀.heap.get? x = none := by
  cases q : X.s₀.heap.get? x with
  | none => rfl
  | some o =>
    obtain ⟨o', e⟩ := I.base.there x o q (by rw [t.ex]; exact fun z => nomatch z)
    rw [h] at e
    cases e
theorem Inv.keptOut (I : Inv X pins σ H s) (t : Top1 X) {H' : Hp} {h' B : Heap} (nf : ∀ b ∈ frs X.stack, H' b = none) (k : Kept X.stack H' s.heap h' B) : Kept X.outer H' X.s₀.heap h' B := fun b o e c hb => by
  have ns : b ∉ frs X.stack := fun z => by
    have z' := z
    rw [frs_top t] at z
    rcases List.mem_cons.mp z with z | z
    · rcases c with c | ⟨o0, c⟩
      · exact c (nf b z')
      · exact absurd (Nat.lt_of_lt_of_le (Heap.lt_size c) I.ok.above) (by rw [z]; exact Nat.lt_irrefl _)
    · exact hb z
  refine k b o e ?_ ns
  rcases c with c | ⟨o0, c⟩
  · exact .inl c
  · exact .inr (I.base.there b o0 c (by rw [t.ex]; exact fun z => nomatch z))
/-- a callee's exception leaves this frame too -/
theorem leave_fly {E E' : XK} {e : Value} {s' : Shared} {Ee : Value → Shared → Prop} (I : Inv X pins σ H s) (t : Top1 X) (fl : CXF X.prog X.w X.stack H s E e s') (hE : ∀ C o H', E C o H' → E' C o H') :
    wpAny (model X.prog X.w) X.A (leaving X.env e) (fun _ s'' => CXF X.prog X.w X.outer X.H₀ X.s₀ E' e s'') Ee s' := by
  obtain ⟨x, C, a0, H', B, rfl, os, gb, un, hok, fly, bh, xn, xf, he⟩ := fl
  have nf := I.nf un
  have hfr : X.A.frames = some (X.env :: X.outer) := by rw [← t.st]; exact I.ok.frames
  have ff := fly.2.2.1
  rw [t.st] at fly
  refine wpAny_leaves_onW hfr t.fr fly fun h' fly' us => ?_
  obtain ⟨un', hok', bh'⟩ := fly_move un hok ff bh nf fly'.1 us
  exact ⟨x, C, a0, H', B, rfl, os.trans I.os, gb, I.out t un', hok', fly', I.keptOut t nf bh', xn, I.new0 t xf, hE _ _ _ he⟩
/-- an exception raised here leaves this frame -/
theorem leave_made {E : XK} {x C : Addr} {vs : List Value} {h1 : Heap} {Ee : Value → Shared → Prop} (I : Inv X pins σ H s) (t : Top1 X) (mk : Heap.MadeExcOf s.heap h1 x (.ref C) vs) (he : E (.ref C) none H) :
    wpAny (model X.prog X.w) X.A (leaving X.env (.ref x)) (fun _ s'' => CXF X.prog X.w X.outer X.H₀ X.s₀ E (.ref x) s'') Ee { s with heap := h1 } := by
  have hfr : X.A.frames = some (X.env :: X.outer) := by rw [← t.st]; exact I.ok.frames
  have hl : s.heap.FunFrames (PySem.W.hideAll s.heap (frs X.stack)) (X.env :: X.outer) := by
    rw [← t.st]
    exact PySem.W.funFrames_hide I.stack fun env he a ha => List.mem_filterMap.mpr ⟨env, he, ha⟩
  refine wpAny_leaves_madeW (base := PySem.W.hideAll s.heap (frs X.stack)) (h := s.heap) hfr t.fr (fun b o q => PySem.W.of_hideAll _ q) hl mk fun h2 tt fly _ _ us => ?_
  have nf : ∀ b ∈ frs X.stack, H b = none := I.stkFree
  have xnew : s.heap.get? x = none := mk.new
  have bh0 : Kept X.stack H s.heap s.heap (PySem.W.hideAll s.heap (frs X.stack)) := fun b o e _ hb => PySem.W.hideAll_get _ e hb
  obtain ⟨un', hok', bh'⟩ := fly_move (Un.refl (fs := frs X.stack) (ex := []) (H := H) (h := s.heap)) I.hok I.stack bh0 nf fly.1 ((Heap.UpToSlots.of_keeps mk.keeps).trans us)
  have xn : H x = none := by
    cases q : H x with
    | none => rfl
    | some o =>
      obtain ⟨ob, e⟩ := (I.hok x o q).there
      rw [xnew] at e
      cases e
  exact ⟨x, C, _, H, _, rfl, I.os, I.bare, I.out t un', hok', fly, I.keptOut t nf bh', xn, I.new0 t xnew, he⟩
end

/-! ### the judgements with exceptions -/
/-- an exception that leaves a piece of code: of a callee, or (m) raised here -/
def XS (X : Cx) (m : Bool) (pins : List (Addr × Obj)) (DX : St → XK) (e : Value) (s' : Shared) : Prop :=
  (∃ σ1 H1 s1, Inv X.nox pins σ1 H1 s1 ∧ CXF X.prog X.w X.stack H1 s1 (DX σ1) e s') ∨
  (m = true ∧ ∃ σ1 H1 s1 x C vs h1, Inv X.nox pins σ1 H1 s1 ∧ e = .ref x ∧ s' = { s1 with heap := h1 } ∧ Heap.MadeExcOf s1.heap h1 x (.ref C) vs ∧ DX σ1 (.ref C) none H1)
abbrev TEx := St → Hp → VK → XK → Prop
abbrev TSx := Ends → (St → XK) → St → Hp → Prop
def PEx (X : Cx) (e : Expr) (t : TEx) : Prop :=
  ∀ (pins : List (Addr × Obj)) (s : Shared) (σ : St) (H : Hp) (Q : VK) (E : XK), Inv X.nox pins σ H s → t σ H Q E →
    wpAny (model X.prog X.w) X.A (eval e X.env) (EP X.nox pins σ Q) (fun e s' => ∃ H1 s1, Inv X.nox pins σ H1 s1 ∧ CXF X.prog X.w X.stack H1 s1 E e s') s
def PSx (X : Cx) (m : Bool) (st : Stmt) (t : TSx) : Prop :=
  ∀ (pins : List (Addr × Obj)) (s : Shared) (σ : St) (H : Hp) (D : Ends) (DX : St → XK), Inv X.nox pins σ H s → t D DX σ H → wpAny (model X.prog X.w) X.A (exec st X.env) (SP X.nox pins D) (XS X m pins DX) s
def PSsx (X : Cx) (m : Bool) (st : List Stmt) (t : TSx) : Prop :=
  ∀ (pins : List (Addr × Obj)) (s : Shared) (σ : St) (H : Hp) (D : Ends) (DX : St → XK), Inv X.nox pins σ H s → t D DX σ H → wpAny (model X.prog X.w) X.A (execs st X.env) (SP X.nox pins D) (XS X m pins DX) s
section
variable {X : Cx} {m : Bool} {st : Stmt} {rest : List Stmt} {e : Expr} {pos : Pos}
/-- code without exceptions -/
theorem px {t : TS} (h : PS X.nox st t) : PSx X m st (fun D _ => t D) := fun pins s σ H D _ I q => wpAny_mono (h pins s σ H D I q) (fun _ _ z => z) fun _ _ z => False.elim z
theorem pxs {sts : List Stmt} {t : TS} (h : PSs X.nox sts t) : PSsx X m sts (fun D _ => t D) := fun pins s σ H D _ I q => wpAny_mono (h pins s σ H D I q) (fun _ _ z => z) fun _ _ z => False.elim z
def xSeq (t u : TSx) : TSx := fun D DX σ H => t { D with nx := u D DX } DX σ H
theorem pssx_cons {t u : TSx} (h1 : PSx X m st t) (h2 : PSsx X m rest u) : PSsx X m (st :: rest) (xSeq t u) := by
  intro pins s σ H D DX I h
  refine wpAny_execs_cons (thn (h1 pins s σ H { D with nx := u D DX } DX I h) fun f s1 q => ?_)
  cases f with
  | next =>
    obtain ⟨σ', H', I', q⟩ := q
    exact h2 pins s1 σ' H' D DX I' q
  | ret v => exact q
  | brk => exact q
  | cont => exact q
theorem pssx_one {t : TSx} (h1 : PSx X m st t) : PSsx X m [st] t := by
  intro pins s σ H D DX I h
  refine wpAny_execs_cons (thn (h1 pins s σ H D DX I h) fun f s1 q => ?_)
  cases f with
  | next => exact wpAny_execs_nil q
  | ret v => exact q
  | brk => exact q
  | cont => exact q
theorem pssx_nil : PSsx X m [] (fun D _ σ H => D.nx σ H) := pxs pss_nil
theorem psx_if {c : Expr} {a b : List Stmt} {tc : TT} {t u : TSx} (hc : PT X.nox c tc) (ha : PSsx X m a t) (hb : PSsx X m b u) : PSx X m (.If c a b pos) (fun D DX σ H => tc σ H fun k H1 => if k = true then t D DX σ H1 else u D DX σ H1) := by
  intro pins s σ H D DX I h
  refine wpAny_If (wpAny_mono (hc pins s σ H _ I h) (fun d s1 ⟨H1, I1, q1⟩ => ?_) fun _ _ z => False.elim z)
  cases d with
  | true => exact ha pins s1 σ H1 D DX I1 q1
  | false => exact hb pins s1 σ H1 D DX I1 q1
/-- name = an expression that may raise -/
theorem psx_set {i : Nat} {x : Str} {te : TEx} {pos' : Pos} (hN : X.N.Nodup) (hi : X.N[i]? = some x) (hx : Loc X.env.scope x) (he : PEx X e te) (hs : swapsWith e (some (.Name x pos')) pos.line X.env = pure false := by rfl)
    (hf : X.fn x = true ∨ X.env.scope.names.lookup x = some .local := by first | exact .inl rfl | exact .inr rfl | assumption) :
    PSx X m (.Assign [.Name x pos'] e pos) (fun D DX σ H => te σ H (fun v H1 => D.nx (σ.set i (some v)) H1) (DX σ)) := by
  intro pins s σ H D DX I h
  refine wpAny_Assign_Name (wpAny_mono (he pins s σ H _ _ I h) (fun v s1 ⟨y, H1, I1, r1, q1⟩ => ?_) fun e s1 ⟨H1, s2, I1, c⟩ => .inl ⟨σ, H1, s2, I1, c⟩) hs
  exact store_ok (X := X.nox) I1 hN hi hx r1 (fun s2 I2 => ⟨_, H1, I2, q1⟩) hf
theorem psx_expr {te : TEx} (he : PEx X e te) (hs : swapsWith e none pos.line X.env = pure false := by rfl) : PSx X m (.Expr e pos) (fun D DX σ H => te σ H (fun _ H1 => D.nx σ H1) (DX σ)) := by
  intro pins s σ H D DX I h
  exact wpAny_Expr_any (wpAny_mono (he pins s σ H _ _ I h) (fun v s1 ⟨x, H1, I1, r1, q1⟩ => ⟨σ, H1, I1, q1⟩) fun e s1 ⟨H1, s2, I1, c⟩ => .inl ⟨σ, H1, s2, I1, c⟩) I.quiet hs
theorem psx_ret {te : TEx} (he : PEx X e te) : PSx X m (.Return (some e) pos) (fun D DX σ H => te σ H D.rt (DX σ)) := by
  intro pins s σ H D DX I h
  exact wpAny_Return_some (wpAny_mono (he pins s σ H _ _ I h) (fun v s1 ⟨x, H1, I1, r1, q1⟩ => ⟨x, σ, H1, I1, r1, q1⟩) fun e s1 ⟨H1, s2, I1, c⟩ => .inl ⟨σ, H1, s2, I1, c⟩)
end

/-! ### calls that may raise -/
section
variable {X : Cx} {k : Nat} {f C : Addr} {fd : FuncData} {ps : List Str} {sp : Sp} {dvs : List V} {ds : List Value} {x m : Str} {p pos apos : Pos} {e o : Expr} {es : List Expr} {ta : TE} {t : TA}
theorem run_fnx {pins : List (Addr × Obj)} {σ : St} {H : Hp} {s : Shared} {Q : VK} {E : XK} {us : List Value} {vs : List V} (F : FnOk X.prog X.w X.K X.mg X.base (CXF X.prog X.w) k f fd ps sp) (hr : Room k X.A) (hb : Binds X.K fd ps ds) (hd : Vals dvs ds)
    (I : Inv X.nox pins σ H s) (r : Vals vs us) (h : sp (vs ++ dvs) H Q E) :
    wpAny (model X.prog X.w) X.A (call (.ref f) us) (EP X.nox pins σ Q) (fun e s' => ∃ H1 s1, Inv X.nox pins σ H1 s1 ∧ CXF X.prog X.w X.stack H1 s1 E e s') s := by
  have r2 : Vals (vs ++ dvs) (us ++ ds) := r.append hd
  have hl : (us ++ ds).length = ps.length := by rw [← r2.length]; exact F.len _ _ _ _ h
  refine wpAny_call (codeAny_mono (F.run X.A X.stack s H ⟨us, []⟩ (us ++ ds) (vs ++ dvs) Q E hr I.env0 (hb s us I.kIn hl) r2 h) fun r s' hq => ?_)
  cases r with
  | error e => exact ⟨H, s, I, hq⟩
  | ok fl =>
    cases fl with
    | ret u => exact I.after hq
    | next => exact False.elim hq
    | brk => exact False.elim hq
    | cont => exact False.elim hq
theorem pex_call (F : FnOk X.prog X.w X.K X.mg X.base (CXF X.prog X.w) k f fd ps sp) (hr : Room k X.A) (hg : Gl X x) (hm : X.mg x = some (.ref f)) (hk : PySem.W.keepIn X.K (.ref f) = true) (hb : Binds X.K fd ps ds) (hd : Vals dvs ds)
    (ha : PA X.nox (e :: es) t) (hdb : (x == ("__debug__" : Str)) = false := by decide) (he : starEach (e :: es) X.env = (false, eval e X.env) :: starEach es X.env := by rfl) (hpl : (backTo pos (starEach es X.env)).any (·.1) = false := by rfl) :
    PEx X (.Call (.Name x p) (e :: es) [] pos) (fun σ H Q E => t σ H fun vs H1 => sp (vs ++ dvs) H1 Q E) := by
  intro pins s σ H Q E I h
  refine wpAny_Call_Name_kw (ld_glob (X := X.nox) I hg hm ?_ hdb)
  refine PySem.W.callWith_K (h₀ := X.base) I.ok.mod.kin hk (wpAny_mono (ha pos pins s σ H _ I h) (fun us s1 ⟨vs, H1, I1, r, q⟩ => ⟨I1.kIn, ?_⟩) fun _ _ z => False.elim z) he hpl
  exact run_fnx F hr hb hd I1 r q
theorem pex_meth {pl : Sem Bool} (he : PE X.nox o ta) (c : Cls X.K C) (hm : Meth X.K C m f) (F : FnOk X.prog X.w X.K X.mg X.base (CXF X.prog X.w) k f fd ps sp) (hr : Room k X.A) (hb : Binds X.K fd ps ds) (hd : Vals dvs ds) (ha : PA X.nox (e :: es) t)
    (hst : starEach (e :: es) X.env = (false, eval e X.env) :: starEach es X.env := by rfl) (hpl : (backTo pos (starEach es X.env)).any (·.1) = false := by rfl)
    (ht : eval (.Call (.Attribute o m apos) (e :: es) [] pos) X.env = (do
      let ov ← eval o X.env
      standAt apos.atName
      let (f, first) ← holding [ov] (getMethod ov m pl)
      callWith pos f first (backTo pos (starEach (e :: es) X.env)) (backToKw pos (keywordEach [] X.env))) := by rfl) :
    PEx X (.Call (.Attribute o m apos) (e :: es) [] pos) (fun σ H Q E => ta σ H fun x H1 => ∃ a dx fs, x = .ref a ∧ H1 a = some (.ins C dx fs) ∧ fs.lookup m = none ∧ t σ H1 fun vs H2 => sp (x :: (vs ++ dvs)) H2 Q E) := by
  intro pins s σ H Q E I h
  refine PySem.W.methodCall_KW (pl := pl) (wpAny_mono (he pins s σ H _ I h) (fun u s1 ⟨x, H1, I1, rx, a, dx, fs, ex, ea, l, q⟩ => ?_) fun _ _ z => False.elim z) ht
  subst ex
  obtain rfl : u = Value.ref a := rx
  refine getmeth_ok (X := X.nox) I1 ea c hm l ?_
  refine PySem.W.callWith_K (first := [.ref a]) (h₀ := X.base) I.ok.mod.kin hm.kp (wpAny_mono (ha pos pins s1 σ H1 _ I1 q) (fun us s2 ⟨vs, H2, I2, r, q2⟩ => ⟨I2.kIn, ?_⟩) fun _ _ z => False.elim z) hst hpl
  exact run_fnx (us := .ref a :: us) (vs := .ref a :: vs) F hr hb hd I2 (.cons rfl r) q2
end

section
variable {X : Cx} {k : Nat} {f C : Addr} {fd : FuncData} {ps : List Str} {sp : Sp} {dvs : List V} {ds : List Value} {x m : Str} {p pos apos : Pos} {e o : Expr} {es : List Expr} {ta : TE} {t : TA}
end

/-! ### raise -/
theorem nsFind_none {es : Array DictEntry} {x : Str} (h : ∀ e ∈ es.toList, e.key.isStr x = false) : nsFind es x = none := by
  unfold nsFind findBy
  rw [← Array.find?_toList, List.find?_eq_none.mpr fun e he => by
    show ¬ e.key.isStr x = true
    rw [h e he]
    exact Bool.false_ne_true]
  all_goals rfl
theorem topRead_mod {K : PySem.W.Frag} {mg : Str → Option Value} {base : Heap} (M : Mod K mg base) (p : Program) : ∃ loose mb, PySem.W.TopRead p loose mg mb base := by
  obtain ⟨mb, h1, h2⟩ := M.blt
  obtain ⟨o, es, ep, ho, hd, hk, hm⟩ := id M.glob
  refine ⟨es.toList.filterMap fun e => match e.key with | .str y _ => some y | _ => none, mb, M.glob, h1, M.nolimit, h2, fun x _ hx _ _ _ => ?_⟩
  rw [← hm x]
  refine nsFind_none fun e he => ?_
  cases q : e.key.isStr x with
  | false => rfl
  | true =>
    exfalso
    obtain ⟨y, t, hy⟩ := hk e (Array.mem_toList_iff.mp he)
    refine hx (List.mem_filterMap.mpr ⟨e, he, ?_⟩)
    rw [hy] at q ⊢
    have : y = x := by simpa [Value.isStr] using q
    rw [this]
section
variable {X : Cx} {m : Bool} {x : Str} {C : Addr} {B newId initId : String} {bmB : List Value} {np cpos pos : Pos} {e0 : Expr} {rest : List Expr} {t : TA}
theorem psx_raise (hc : X.calm = true) (hg : Gl X x) (hm : X.mg x = some (.ref C)) (hn : PySem.W.nsIn X.K mainGlobals x = some (some (.ref C))) (hq : PySem.W.excIn X.K C bmB newId = true) (FB : ExcBaseFacts B newId initId bmB)
    (ha : PA X.nox (e0 :: rest) t) (he : starEach (e0 :: rest) X.env = (false, eval e0 X.env) :: starEach rest X.env := by rfl) (hpl : (backTo cpos (starEach rest X.env)).any (·.1) = false := by rfl) (hdb : (x == ("__debug__" : Str)) = false := by decide) :
    PSx X true (.Raise (some (.Call (.Name x np) (e0 :: rest) [] cpos)) none pos) (fun D DX σ H => t σ H fun vs H1 => vs.length ≤ sizeLine ∧ DX σ (.ref C) none H1) := by
  intro pins s σ H D DX I h
  obtain ⟨loose, mb, T⟩ := topRead_mod I.mod X.prog
  have O := PySem.W.own_of_in I.mod.kin T hn hq
  obtain ⟨tl, N, nm, q, bs, hdct, sn, sub, ab, col, dd, k0, k1, k2, k3, k5, mN, hC, hN, hni, OT⟩ := O.obj
  refine wpAny_Raise_call_subT (C := C) (nm := nm) (q := q) (N := N) (bs := bs) (bm := tl) (hdct := hdct) (sn := sn) (sub := sub) (ab := ab) (col := col) (dd := dd) (k0 := k0) (k1 := k1) (k2 := k2) (k3 := k3) (k5 := k5)
    FB (mN := mN) (OT.hasType FB.hasBase) (I.ok.hd hc) (by rw [he]; show (false || (backTo cpos (starEach rest X.env)).any (·.1)) = false; rw [hpl]; rfl) hni (ld_glob (X := X.nox) I hg hm ⟨rfl, ?_⟩ hdb)
  have h2 := ha cpos pins s σ H _ I h
  rw [he] at h2 ⊢
  refine Calls.evalArgs_plain (wpAny_mono h2 (fun us s2 ⟨vs, H1, I1, r, hz, q1⟩ => ⟨rfl, by rw [← r.length]; exact hz, I1.bk _ _ hC, hN.keeps I1.bk, OT.keeps I1.bk, fun h1 ex mk => ?_⟩) fun _ _ z => False.elim z)
  exact .inr ⟨rfl, σ, H1, s2, ex, C, us, h1, I1, rfl, rfl, mk, q1⟩
end

/-! ### a def that may raise -/
theorem top1_cx {CX : CXT} {P : Program} {w : World} {K : PySem.W.Frag} {mg : Str → Option Value} {base : Heap} {N : List Str} {qual : Str} {scope : Scope} {f : Addr} {cd : Value} {A : Around} {outer : List Env} {s : Shared} {H : Hp} {E : XK} :
    Top1 (cxOf CX P w K mg base N qual scope f cd A outer s H E) := ⟨rfl, rfl, rfl⟩
section
variable {P : Program} {w : World} {K : PySem.W.Frag} {mg : Str → Option Value} {base : Heap}
theorem Fun.okX {x qual : Str} {st : Stmt} {f : Addr} {fd : FuncData} {N ps : List Str} {k : Nat} {sp : Sp} (F : Fun K x qual st f fd) (S : FnScope N ps (defScope st)) (len : ∀ vs H Q E, sp vs H Q E → vs.length = ps.length)
    (hbody : ∀ (cdv : Value) (A : Around) (outer : List Env) (s : Shared) (H : Hp) (vs : List V) (Q : VK) (E : XK), Room k (A.deeper (envOfC qual (defScope st) s.heap.objs.size f cdv)) → sp vs H Q E →
      ∃ t, PSsx (cxOf (CXF P w) P w K mg base N qual (defScope st) f cdv A outer s H E) true (defBody st) t ∧ t { nx := fun _ H' => Q .non H', rt := Q } (fun _ => E) (start N vs) H) : FnOk P w K mg base (CXF P w) (k + 1) f fd ps sp := by
  obtain ⟨oc, od, kV, doc, pm, an, cdv, ct, osl, rfl, lk, hcd⟩ := F.ex
  refine fn_of lk hcd S len fun A outer s H vs Q E hr hsp => ?_
  obtain ⟨t, h, q⟩ := hbody cdv A outer s H vs Q E hr hsp
  refine ⟨fun D σ H' => t D (fun _ => E) σ H', fun pins s1 σ H1 D I hq => ?_, q⟩
  refine wpAny_mono (h pins s1 σ H1 D (fun _ => E) (I.wish _) hq) (fun fl s2 z => z.unwish) fun e s2 z => ?_
  rcases z with ⟨σ1, H2, s3, I3, fl⟩ | ⟨_, σ1, H2, s3, ex, C, vs', h1, I3, rfl, rfl, mk, he⟩
  · exact leave_fly I3.unwish top1_cx fl fun _ _ _ z => z
  · exact leave_made I3.unwish top1_cx mk he
end

/-! ### try: .. except C as n: .. -/
section
variable {X : Cx} {pins : List (Addr × Obj)} {σ : St} {H : Hp} {s : Shared}
/-- the name of an except clause goes -/
theorem Inv.goes {M : Model} {A : Around} {E : Value → Shared → Prop} {i : Nat} {n : Str} {pos : Pos} {Q : Unit → Shared → Prop} (I : Inv X pins σ H s) (hN : X.N.Nodup) (hi : X.N[i]? = some n) (hl : X.env.scope.names.lookup n = some .local)
    (h : ∀ s', Inv X pins (σ.set i none) H s' → Q () s') : wpAny M A (do bindName X.env n .none; unbindBehindTheSuite X.env n pos) Q E s := by
  obtain ⟨m, hn, hlk⟩ := id I.loc
  have hcls : (X.env.scope.kind == .class || (X.env.scope.kind == .module && X.env.locals != X.env.globals)) = false := by rw [I.ok.kind]; rfl
  obtain ⟨oL, _, _, hoL, _⟩ := id hn
  have old : ∀ b o, X.s₀.heap.get? b = some o → b ≠ X.env.locals := fun b o e => Nat.ne_of_lt (Nat.lt_of_lt_of_le (Heap.lt_size e) I.ok.above)
  refine wpAny_nameGoes_keeps hl hn hcls fun h' v hn' hs => ?_
  have I0 : Inv X pins (σ.set i none) H { s with heap := h' } := by
    refine ⟨I.ok, I.os, I.bare, ⟨fun b o e n hb hx => (hs.2 b (old b o e)).trans (I.base.keep b o e n hb hx), fun b o e n hb hx => ?_, I.base.free, fun b o e hx => ?_, I.base.tups, I.base.frzs, I.base.tbls⟩, ⟨_, hn', fun j y v' e1 e2 e3 => ?_⟩, fun y c e => ?_, I.free, I.freeC, fun p hp => ?_, fun b ob e => ?_, ?_⟩
    · obtain ⟨sl, q⟩ := I.base.slot b o e n hb hx
      exact ⟨sl, (hs.2 b (old b o e)).trans q⟩
    · obtain ⟨o', q⟩ := I.base.there b o e hx
      exact ⟨o', (hs.2 b (old b o e)).trans q⟩
    · by_cases hj : j = i
      · subst hj
        have hlt : j < σ.length := by rw [I.len]; exact (List.getElem?_eq_some_iff.mp hi).1
        rw [List.getElem?_set_self hlt] at e2
        cases e2
      · rw [List.getElem?_set_ne (Ne.symm hj)] at e2
        obtain ⟨u', r', q⟩ := hlk j y v' e1 e2 e3
        refine ⟨u', r', ?_⟩
        rcases q with ⟨k, e⟩ | ⟨k, c, e, z⟩
        · have hyn : y ≠ n := fun e => hj (nodup_ix hN e1 (e ▸ hi))
          exact .inl ⟨k, by simp [hyn, e]⟩
        · exact .inr ⟨k, c, e, z.sameBut hs (I.cne y c e)⟩
    · obtain ⟨w', z⟩ := I.cell y c e
      exact ⟨w', z.sameBut hs (I.cne y c e)⟩
    · obtain ⟨e, n, ne, nf, d⟩ := I.pin p hp
      exact ⟨(hs.2 p.1 ne).trans e, n, ne, nf, d⟩
    · refine (I.hok b ob e).stay (fun c w' hc q => (hs.2 c ?_).trans q) (fun _ q => q) fun _ _ q => q
      rintro rfl
      rcases hc with z | z
      · rw [← z, I.free] at e
        cases e
      · rw [I.free] at z
        cases z
    · rw [List.length_set]
      exact I.len
  exact h _ (I0.tok _)
end

section
variable {X : Cx} {body suite : List Stmt} {b0 : Stmt} {c n : Str} {cp hpos pos : Pos} {i : Nat} {Cc : Addr} {tb : TSx} {ts : TS}
end
end L2

set_option Elab.async false
set_option linter.all false
set_option maxRecDepth 100000
set_option maxHeartbeats 4000000
/-! more of the language, over the hand layer -/
namespace L2
open PySem PySem.Spec PyProof.Rows
section
variable {X : Cx} {a b c d : Expr} {ta tb tc td : TE} {pos : Pos}
/-- a op1 b op2 c op3 d, as a test -/
def tChain3 (r1 r2 r3 : R2) (ta tb tc td : TE) : TE := fun σ H Q => ta σ H fun x H1 => tb σ H1 fun y H2 => r1 x y H2 fun z H3 => ∃ k, z = .bl k ∧
  (if k = true then tc σ H3 fun y2 H4 => r2 y y2 H4 fun z2 H5 => ∃ k2, z2 = .bl k2 ∧ (if k2 = true then td σ H5 fun y3 H6 => r3 y2 y3 H6 Q else Q (.bl false) H5) else Q (.bl false) H3)
end
section
variable {X : Cx} {pos : Pos}
/-- a number of the module, a class of the text, a built-in type -/
theorem pe_gint {x : Str} {i : Int} {t : Tok} (hg : Gl X x) (hm : X.mg x = some (.int i t)) (hd : (x == ("__debug__" : Str)) = false := by decide) : PE X (.Name x pos) (tC (.int i)) := pe_glob (v := .int i) hg hm ⟨_, rfl⟩ hd
end

theorem passX {X : Cx} : Passes (CXF X.prog X.w) X E0 := fun _ _ _ _ _ _ _ h => by
  obtain ⟨x, C, a0, H', B, _, _, _, _, _, _, _, _, _, he⟩ := h
  exact he.elim

theorem cxOf_K {CX : CXT} {P : Program} {w : World} {K : PySem.W.Frag} {mg : Str → Option Value} {base : Heap} {N : List Str} {qual : Str} {scope : Scope} {f : Addr} {cd : Value} {A : Around} {outer : List Env} {s : Shared} {H : Hp} {E : XK} :
    (cxOf CX P w K mg base N qual scope f cd A outer s H E).K = K := rfl
end L2

set_option Elab.async false
set_option linter.all false
set_option maxRecDepth 100000
set_option maxHeartbeats 4000000
/-! isinstance of a caught error, and of the other values -/
namespace L2
open PySem PySem.Spec PyProof.Rows

/-- what isinstance asks of an own error class -/
structure ExcCls (K : PySem.W.Frag) (C : Addr) : Prop where
  cl : ∃ cd, PySem.W.clsIn K C = some cd
  ga : PySem.W.findIn K (.ref C) "__getattribute__" = some (some (.builtin "BaseException.__getattribute__"))
  gt : PySem.W.findIn K (.ref C) "__getattr__" = some none
  ca : PySem.W.findIn K (.ref C) "__class__" = some (some (.builtin "object.__class__"))
  cn : PySem.W.specialIn K (.builtin "object.__class__") "__get__" = some (some (.builtin "getset_descriptor.__get__"))
  ct : PySem.W.takesIn K (.builtin "object.__class__") = some true
  mo : PySem.W.mroIn K C (.type "object") = some true
  mb : PySem.W.mroIn K C (.type "BaseException") = some true
section
variable {prog : Program} {w : World} {A : Around} {E : Value → Shared → Prop} {s : Shared} {K : PySem.W.Frag} {x C : Addr}
open PySem.W Builtin Builtin.ObjectAttr Builtin.Getset_descriptor in
open PySem.W Builtin Builtin.ObjectAttr in
open PySem.W Builtin in
open PySem.W Builtin in
end

section
variable {X : Cx}
end
end L2

set_option Elab.async false
set_option linter.all false
set_option maxRecDepth 100000
set_option maxHeartbeats 4000000
/-! readings by values: what simp leaves folded, and how each is met -/
namespace L2
open PySem PySem.Spec PyProof.Rows
def rFld (K : PySem.W.Frag) (f : Str) (x : V) (H : Hp) (Q : VK) : Prop := ∃ a C dx fs v, x = .ref a ∧ H a = some (.ins C dx fs) ∧ Cls K C ∧ NoAttr K C f ∧ fs.lookup f = some v ∧ Q v H
def rPutF (K : PySem.W.Frag) (f : Str) (y x : V) (H : Hp) (Q : Hp → Prop) : Prop := ∃ a C dx fs, x = .ref a ∧ H a = some (.ins C dx fs) ∧ Cls K C ∧ NoAttr K C f ∧ fs.length < 1000 ∧ Q (upd H a (.ins C dx (putF f y fs)))
def rMeth (C : Addr) (m : Str) (x : V) (H : Hp) (Q : Prop) : Prop := ∃ a dx fs, x = .ref a ∧ H a = some (.ins C dx fs) ∧ fs.lookup m = none ∧ Q
def rLen (K : PySem.W.Frag) (xs : List V) (H : Hp) (Q : VK) : Prop := ∃ p ys, xs = [.ref p] ∧ (SqL K H p ys ∨ SqT K H p ys) ∧ Q (.int ys.length) H
section
variable {K : PySem.W.Frag} {H : Hp} {p C dx : Addr} {fs : List (Str × V)} {f m : Str} {v y : V} {Q : VK} {Q1 : Hp → Prop} {xs : List V} {i : Int}
theorem tFld_eq (K : PySem.W.Frag) (ta : TE) (f : Str) : tFld K ta f = fun σ H Q => ta σ H fun x H1 => rFld K f x H1 Q := rfl
theorem sFld_eq (K : PySem.W.Frag) (ta tv : TE) (f : Str) : sFld K ta tv f = fun D σ H => tv σ H fun y H1 => ta σ H1 fun x H2 => rPutF K f y x H2 (D.nx σ) := rfl
theorem tMeth_eq (C : Addr) (m : Str) (sp : Sp) (dvs : List V) (E : XK) (ta : TE) (t : TA) : tMeth C m sp dvs E ta t = fun σ H Q => ta σ H fun x H1 => rMeth C m x H1 (t σ H1 fun vs H2 => sp (x :: (vs ++ dvs)) H2 Q E) := rfl
theorem rd_fld (hp : H p = some (.ins C dx fs)) (c : Cls K C) (n : NoAttr K C f) (l : fs.lookup f = some v) (q : Q v H) : rFld K f (.ref p) H Q := ⟨p, C, dx, fs, v, rfl, hp, c, n, l, q⟩
theorem rd_put (hp : H p = some (.ins C dx fs)) (c : Cls K C) (n : NoAttr K C f) (l : fs.length < 1000) (q : Q1 (upd H p (.ins C dx (putF f y fs)))) : rPutF K f y (.ref p) H Q1 := ⟨p, C, dx, fs, rfl, hp, c, n, l, q⟩
theorem rd_meth {Q : Prop} (hp : H p = some (.ins C dx fs)) (l : fs.lookup m = none) (q : Q) : rMeth C m (.ref p) H Q := ⟨p, dx, fs, rfl, hp, l, q⟩
theorem rd_ixL (hS : SqL K H p xs) (h : atI xs i = some v) (q : Q v H) : rIxL K (.ref p) (.int i) H Q := ⟨p, xs, i, v, rfl, rfl, hS, h, q⟩
theorem rd_ixT (hS : SqT K H p xs) (h : atI xs i = some v) (q : Q v H) : rIxT K (.ref p) (.int i) H Q := ⟨p, xs, i, v, rfl, rfl, hS, h, q⟩
theorem rd_lenL (hS : SqL K H p xs) (q : Q (.int xs.length) H) : rLen K [.ref p] H Q := ⟨p, xs, rfl, .inl hS, q⟩
end
section
variable {X : Cx}
theorem call_lenS : CallR X (.builtin "len") (rLen X.K) := call_len_seq
end
end L2

set_option Elab.async false
set_option linter.all false
set_option maxRecDepth 100000
set_option maxHeartbeats 4000000
/-! the same rules, with what they ask of an argument list met once for each kind of expression -/
namespace L2
open PySem PySem.Spec PyProof.Rows
def Star1 (e : Expr) : Prop := ∀ (es : List Expr) (env : Env), starEach (e :: es) env = (false, eval e env) :: starEach es env
section
variable {a b c : Expr} {es fs : List Expr} {x : Str} {p q : Pos}
theorem sx_const {k j} : Star1 (.Constant k j p) := fun _ _ => rfl
theorem sx_name : Star1 (.Name x p) := fun _ _ => rfl
theorem sx_un {op} : Star1 (.UnaryOp op a p) := fun _ _ => rfl
theorem sx_bin {op} : Star1 (.BinOp a op b p) := fun _ _ => rfl
theorem sx_call {kw} : Star1 (.Call a es kw p) := fun _ _ => rfl
theorem sx_attr : Star1 (.Attribute a x p) := fun _ _ => rfl
theorem sx_sub : Star1 (.Subscript a b p) := fun _ _ => rfl
theorem sx_join : Star1 (.JoinedStr es p) := fun _ _ => rfl
end
def NoStar (es : List Expr) : Prop := ∀ (pos : Pos) (env : Env), (backTo pos (starEach es env)).any (·.1) = false
theorem ns_nil : NoStar [] := fun _ _ => rfl
theorem ns_cons {e : Expr} {es : List Expr} (h : Star1 e) (r : NoStar es) : NoStar (e :: es) := fun pos env => by
  have z := r pos env
  unfold backTo at z ⊢
  rw [h, List.map_cons, List.any_cons, z]
  rfl
section
variable {X : Cx} {e : Expr} {es : List Expr} {te : TE} {t : TA} {pos : Pos}
theorem pac (s : Star1 e) (ha : PE X e te) (hr : PA X es t) : PA X (e :: es) (tCons te t) := pa_cons ha hr (s _ _)
end
section
variable {X : Cx} {CX : CXT} {k : Nat} {f C : Addr} {fd : FuncData} {ps : List Str} {sp : Sp} {dvs : List V} {ds : List Value} {E : XK} {x m : Str} {p pos apos : Pos} {e o : Expr} {es : List Expr} {ta : TE} {t : TA} {id Ty : String} {r : List V → Hp → VK → Prop}
/-- a name of the text that is no word of the interpreter's -/
structure Nm (x : Str) : Prop where
  db : (x == ("__debug__" : Str)) = false
  cd : (x == ("__classdict__" : Str)) = false
  nn : x ≠ "__name__"
theorem fe_var {i : Nat} (n : Nm x) (hv : X.env.scope.names.lookup x = some .local) (hN : X.N[i]? = some x) : PE X (.Name x pos) (tVar i) := pe_var hN (Or.inl hv) n.db n.cd
theorem fe_gint {i : Int} {u : Tok} (n : Nm x) (hg : X.env.scope.names.lookup x = some .globalImplicit) (hm : X.mg x = some (.int i u)) : PE X (.Name x pos) (tC (.int i)) := pe_gint hg hm n.db
theorem fe_call (n : Nm x) (hg : X.env.scope.names.lookup x = some .globalImplicit) (F : FnOk X.prog X.w X.K X.mg X.base CX k f fd ps sp) (hr : Room k X.A) (hm : X.mg x = some (.ref f)) (hk : PySem.W.keepIn X.K (.ref f) = true) (hb : Binds X.K fd ps []) (hx : Passes CX X E)
    (s : Star1 e) (z : NoStar es) (ha : PA X (e :: es) t) : PE X (.Call (.Name x p) (e :: es) [] pos) (tCall sp [] E t) := pe_call F hr hg hm hk hb .nil hx ha n.db (s _ _) (z _ _)
theorem fe_callB (n : Nm x) (hg : X.env.scope.names.lookup x = some .globalImplicit) (hc : CallR X (.builtin id) r) (hm : X.mg x = none) (hv : bootBuiltins x = some (.builtin id)) (s : Star1 e) (z : NoStar es) (ha : PA X (e :: es) t) :
    PE X (.Call (.Name x p) (e :: es) [] pos) (tCB r t) := pe_callB hc hg hm hv ha n.nn n.db (s _ _) (z _ _)
theorem fe_callTy (n : Nm x) (hg : X.env.scope.names.lookup x = some .globalImplicit) (hc : CallR X (.type Ty) r) (hm : X.mg x = none) (hv : bootBuiltins x = some (.type Ty)) (s : Star1 e) (z : NoStar es) (ha : PA X (e :: es) t) :
    PE X (.Call (.Name x p) (e :: es) [] pos) (tCB r t) := pe_callTy hc hg hm hv ha n.nn n.db (s _ _) (z _ _)
theorem fe_make (n : Nm x) (hg : X.env.scope.names.lookup x = some .globalImplicit) (M : Mk X.K C f) (F : FnOk X.prog X.w X.K X.mg X.base CX k f fd ps sp) (hr : Room (k + 1) X.A) (hm : X.mg x = some (.ref C)) (hb : Binds X.K fd ps []) (hx : Passes CX X E)
    (s : Star1 e) (z : NoStar es) (ha : PA X (e :: es) t) : PE X (.Call (.Name x p) (e :: es) [] pos) (tMake C sp [] E t) := pe_make M F hr hg hm hb .nil hx ha n.db (s _ _) (z _ _)
theorem fex_call (n : Nm x) (hg : X.env.scope.names.lookup x = some .globalImplicit) (F : FnOk X.prog X.w X.K X.mg X.base (CXF X.prog X.w) k f fd ps sp) (hr : Room k X.A) (hm : X.mg x = some (.ref f)) (hk : PySem.W.keepIn X.K (.ref f) = true) (hb : Binds X.K fd ps [])
    (s : Star1 e) (z : NoStar es) (ha : PA X.nox (e :: es) t) : PEx X (.Call (.Name x p) (e :: es) [] pos) (fun σ H Q E => t σ H fun vs H1 => sp (vs ++ []) H1 Q E) := pex_call F hr hg hm hk hb .nil ha n.db (s _ _) (z _ _)
end

/-! ### methods -/
def Base (o : Expr) : Prop := ∀ (f : Str) (env : Env) (whole : Sem Value), attributeBase o f env whole = whole
section
variable {a b : Expr} {es : List Expr} {x : Str} {p : Pos}
theorem bs_name : Base (.Name x p) := fun _ _ _ => rfl
theorem bs_attr : Base (.Attribute a x p) := fun _ _ _ => rfl
theorem bs_sub : Base (.Subscript a b p) := fun _ _ _ => rfl
end
theorem all_not_of {l : List (Bool × Sem Value)} (h : l.any (·.1) = false) : l.all (fun x => !x.1) = true := by
  rw [List.all_eq_true]
  intro x hx
  cases e : x.1 with
  | false => rfl
  | true =>
    have : l.any (·.1) = true := List.any_eq_true.mpr ⟨x, hx, e⟩
    rw [h] at this
    cases this
theorem meth_ht {o : Expr} {m : Str} {args : List Expr} {apos pos : Pos} {env : Env} (ab : Base o) (z : NoStar args) (hl : (apos.endLine == pos.line) = true) (hn : args.length < 30) :
    eval (.Call (.Attribute o m apos) args [] pos) env = (do
      let ov ← eval o env
      standAt apos.atName
      let (f, first) ← holding [ov] (getMethod ov m (do return (← importBound o env).getD true))
      callWith pos f first (backTo pos (starEach args env)) (backToKw pos (keywordEach [] env))) := by
  have h1 : eval (.Call (.Attribute o m apos) args [] pos) env = (do
      let ov ← attributeBase o m env (eval o env)
      standAt apos.atName
      methodCall o m apos pos env ov (args.length + ([] : List Keyword).length) (backTo pos (starEach args env)) (backToKw pos (keywordEach [] env))) := rfl
  rw [h1, ab]
  have h2 : methodCallForm (args.length + ([] : List Keyword).length) (backTo pos (starEach args env)) (backToKw pos (keywordEach [] env)) = true := by
    unfold methodCallForm
    have e1 : (backTo pos (starEach args env)).all (!·.1) = true := all_not_of (z pos env)
    have e2 : (backToKw pos (keywordEach [] env)).all (·.1.isSome) = true := rfl
    have e3 : (backToKw pos (keywordEach [] env)).isEmpty = true := rfl
    rw [e1, e2, e3]
    have : args.length + ([] : List Keyword).length + 0 < 30 := by simpa using hn
    exact decide_eq_true this
  unfold methodCall
  rw [h2]
  have h3 : ∀ ov, calleeOf true o env ov m = getMethod ov m (do return (← importBound o env).getD true) := fun ov => rfl
  have h4 : methodCallPos true o env apos pos = pure pos := by
    unfold methodCallPos
    rw [hl]
    rfl
  simp only [h3, h4]
  rfl
section
variable {X : Cx} {CX : CXT} {k : Nat} {f C : Addr} {fd : FuncData} {ps : List Str} {sp : Sp} {E : XK} {x m : Str} {p pos apos : Pos} {e o : Expr} {es : List Expr} {ta : TE} {t : TA}
theorem fe_meth (ab : Base o) (hl : (apos.endLine == pos.line) = true) (hn : es.length < 29) (he : PE X o ta) (c : Cls X.K C) (hm : Meth X.K C m f) (F : FnOk X.prog X.w X.K X.mg X.base CX k f fd ps sp) (hr : Room k X.A) (hb : Binds X.K fd ps []) (hx : Passes CX X E)
    (s : Star1 e) (z : NoStar es) (ha : PA X (e :: es) t) : PE X (.Call (.Attribute o m apos) (e :: es) [] pos) (tMeth C m sp [] E ta t) :=
  pe_meth he c hm F hr hb .nil hx ha (s _ _) (z _ _) (meth_ht ab (ns_cons s z) hl (by simp only [List.length_cons]; omega))
theorem fe_meth0 (ab : Base o) (hl : (apos.endLine == pos.line) = true) (he : PE X o ta) (c : Cls X.K C) (hm : Meth X.K C m f) (F : FnOk X.prog X.w X.K X.mg X.base CX k f fd ps sp) (hr : Room k X.A) (hb : Binds X.K fd ps []) (hx : Passes CX X E) :
    PE X (.Call (.Attribute o m apos) [] [] pos) (tMeth C m sp [] E ta tNil) :=
  pe_meth0 he c hm F hr hb .nil hx (meth_ht ab ns_nil hl (by decide))
theorem fex_meth (ab : Base o) (hl : (apos.endLine == pos.line) = true) (hn : es.length < 29) (he : PE X.nox o ta) (c : Cls X.K C) (hm : Meth X.K C m f) (F : FnOk X.prog X.w X.K X.mg X.base (CXF X.prog X.w) k f fd ps sp) (hr : Room k X.A) (hb : Binds X.K fd ps [])
    (s : Star1 e) (z : NoStar es) (ha : PA X.nox (e :: es) t) : PEx X (.Call (.Attribute o m apos) (e :: es) [] pos) (fun σ H Q E => ta σ H fun x H1 => rMeth C m x H1 (t σ H1 fun vs H2 => sp (x :: (vs ++ [])) H2 Q E)) :=
  pex_meth he c hm F hr hb .nil ha (s _ _) (z _ _) (meth_ht ab (ns_cons s z) hl (by simp only [List.length_cons]; omega))
end
end L2
namespace L2
open PySem
theorem bt_len : bootBuiltins "len" = some (.builtin "len") := by decide +kernel
theorem bt_max : bootBuiltins "max" = some (.builtin "max") := by decide +kernel
theorem bt_sorted : bootBuiltins "sorted" = some (.builtin "sorted") := by decide +kernel
theorem bt_list : bootBuiltins "list" = some (.type "list") := by decide +kernel
theorem bt_range : bootBuiltins "range" = some (.type "range") := by decide +kernel
end L2

set_option Elab.async false
set_option linter.all false
set_option maxRecDepth 100000
set_option maxHeartbeats 4000000
/-! the judgements as structures: the elaborator must not look into them -/
namespace L2
open PySem PySem.Spec PyProof.Rows
structure JE (X : Cx) (e : Expr) (t : TE) : Prop where
  h : PE X e t
structure JT (X : Cx) (e : Expr) (t : TT) : Prop where
  h : PT X e t
structure JW (X : Cx) (e : Expr) (t : TT) : Prop where
  h : PW X e t
structure JA (X : Cx) (es : List Expr) (t : TA) : Prop where
  h : PA X es t
structure JS (X : Cx) (s : Stmt) (t : TS) : Prop where
  h : PS X s t
structure JSs (X : Cx) (s : List Stmt) (t : TS) : Prop where
  h : PSs X s t
structure JSx (X : Cx) (m : Bool) (s : Stmt) (t : TSx) : Prop where
  h : PSx X m s t
structure JSsx (X : Cx) (m : Bool) (s : List Stmt) (t : TSx) : Prop where
  h : PSsx X m s t
structure JEx (X : Cx) (e : Expr) (t : TEx) : Prop where
  h : PEx X e t
structure JG (X : Cx) (e : Expr) (t : TG) : Prop where
  h : PG X e t
structure JI (X : Cx) (tg e : Expr) (t : TI) : Prop where
  h : PI X tg e t
structure JF (X : Cx) (e : Expr) (t : St → Hp → (Hp → Prop) → Prop) : Prop where
  h : PF X e t
structure JFs (X : Cx) (es : List Expr) (t : St → Hp → (Hp → Prop) → Prop) : Prop where
  h : PFs X es t
structure JOp (X : Cx) (f : Value → Value → Sem Value) (r : R2) : Prop where
  h : OpR X f r
structure JUn (X : Cx) (f : Value → Sem Value) (r : V → Hp → VK → Prop) : Prop where
  h : UnR X f r
structure JCl (X : Cx) (f : Value) (r : List V → Hp → VK → Prop) : Prop where
  h : CallR X f r
structure JIx (X : Cx) (r : R2) : Prop where
  h : IxR X r
structure JPu (X : Cx) (t : TSet) : Prop where
  h : PSet X t

section
variable {X : Cx} {a b c d e : Expr} {ta tb tc td te : TE} {tA tB' : TT} {es : List Expr} {t : TA} {x : Str} {pos pos' p : Pos}
/-! ### operations -/
theorem jo_add : JOp X (binaryOp .Add) (rI0 fun i j => .int (i + j)) := ⟨op_add⟩
theorem jo_sub : JOp X (binaryOp .Sub) (rI0 fun i j => .int (i - j)) := ⟨op_sub⟩
theorem jo_mul : JOp X (binaryOp .Mult) (rI CMul fun i j => .int (i * j)) := ⟨op_mul⟩
theorem jo_fdiv : JOp X (binaryOp .FloorDiv) (rI CDiv fun i j => .int (i / j)) := ⟨op_fdiv⟩
theorem jo_mod : JOp X (binaryOp .Mod) (rI (fun _ j => 0 < j) fun i j => .int (i % j)) := ⟨op_mod⟩
theorem jo_rep : JOp X (binaryOp .Mult) rRep := ⟨op_rep⟩
theorem jo_eq : JOp X (compareOp .Eq) rEq := ⟨op_eq⟩
theorem jo_ne : JOp X (compareOp .NotEq) rNe := ⟨op_ne⟩
theorem jo_lt : JOp X (compareOp .Lt) (rI0 fun i j => .bl (decide (i < j))) := ⟨op_lt⟩
theorem jo_le : JOp X (compareOp .LtE) (rI0 fun i j => .bl (decide (i ≤ j))) := ⟨op_le⟩
theorem jo_gt : JOp X (compareOp .Gt) (rI0 fun i j => .bl (decide (j < i))) := ⟨op_gt⟩
theorem jo_ge : JOp X (compareOp .GtE) (rI0 fun i j => .bl (decide (j ≤ i))) := ⟨op_ge⟩
theorem ju_neg : JUn X (unaryOp .USub) (rU fun i => .int (-i)) := ⟨un_neg⟩
theorem jc_len : JCl X (.builtin "len") (rLen X.K) := ⟨call_lenS⟩
theorem jx_list : JIx X (rIxL X.K) := ⟨ix_list⟩
theorem jx_tup : JIx X (rIxT X.K) := ⟨ix_tup⟩
theorem jp_list : JPu X rSetL := ⟨set_list⟩
/-! ### expressions -/
theorem je_int {i j pos} : JE X (.Constant (.int i) j pos) (tC (.int i)) := ⟨pe_int⟩
theorem je_bl {b j pos} : JE X (.Constant (.bool b) j pos) (tC (.bl b)) := ⟨pe_bl⟩
theorem je_non {j pos} : JE X (.Constant .none j pos) (tC .non) := ⟨pe_non⟩
theorem je_str {x j pos} : JE X (.Constant (.str x) j pos) (tC (.str x)) := ⟨pe_str⟩
theorem je_un {op : UnaryOp} {r : V → Hp → VK → Prop} (ho : JUn X (unaryOp op) r) (ha : JE X a ta) : JE X (.UnaryOp op a pos) (tUn r ta) := ⟨pe_un ho.h ha.h⟩
theorem je_var {i : Nat} (n : Nm x) (hv : X.env.scope.names.lookup x = some .local) (hN : X.N[i]? = some x) : JE X (.Name x pos) (tVar i) := ⟨fe_var n hv hN⟩
theorem je_gint {i : Int} {u : Tok} (n : Nm x) (hg : X.env.scope.names.lookup x = some .globalImplicit) (hm : X.mg x = some (.int i u)) : JE X (.Name x pos) (tC (.int i)) := ⟨fe_gint n hg hm⟩
theorem je_op {op : Operator} {r : R2} (ho : JOp X (binaryOp op) r) (ha : JE X a ta) (hb : JE X b tb) : JE X (.BinOp a op b pos) (tOp r ta tb) := ⟨pe_op ho.h ha.h hb.h⟩
theorem je_cmp {op : CmpOp} {r : R2} (ho : JOp X (compareOp op) r) (ha : JE X a ta) (hb : JE X b tb) (h1 : op ≠ .In) (h2 : op ≠ .NotIn) : JE X (.Compare a [op] [b] pos) (tOp r ta tb) := ⟨pe_cmpR ho.h ha.h hb.h (nomark b h1 h2)⟩
theorem je_one {op} (h : JE X a ta) : JE X (.BoolOp op [a] pos) ta := ⟨pe_one h.h⟩
theorem je_and {rest : List Expr} (ha : JE X a ta) (hb : JE X (.BoolOp .And (b :: rest) pos) tb) : JE X (.BoolOp .And (a :: b :: rest) pos) (tAndV ta tb) := ⟨pe_and ha.h hb.h⟩
theorem je_if (hc : JT X c tA) (ha : JE X a ta) (hb : JE X b tb) : JE X (.IfExp c a b pos) (tIf tA ta tb) := ⟨pe_ifExp hc.h ha.h hb.h⟩
theorem je_fld {f : Str} (ab : Base e) (he : JE X e ta) : JE X (.Attribute e f pos) (tFld X.K ta f) := ⟨pe_fld he.h (ab _ _ _)⟩
theorem je_ix {r : R2} (hr : JIx X r) (ha : JE X a ta) (hb : JE X b tb) (hs : PlainIx b) : JE X (.Subscript a b pos) (tOp r ta tb) := ⟨pe_ix hr.h ha.h hb.h hs⟩
theorem je_dget (hu : X.A.units + 1 < cLine) (ha : JE X a ta) (hb : JE X b tb) (hs : PlainIx b) : JE X (.Subscript a b pos) (tDGet ta tb) := ⟨pe_dget hu ha.h hb.h hs⟩
theorem ja_nil : JA X [] tNil := ⟨pa_nil⟩
theorem ja_cons (s : Star1 e) (ha : JE X e te) (hr : JA X es t) : JA X (e :: es) (tCons te t) := ⟨pac s ha.h hr.h⟩
theorem je_lst (h : JA X es t) : JE X (.List es pos) (tLst t) := ⟨pe_lst h.h⟩
theorem je_tup {k} (h : JA X es t) : JE X (.Tuple es k pos) (tTup t) := ⟨pe_tup h.h⟩
theorem je_dnewK : JE X (.Dict [] [] pos) tDNewK := ⟨pe_dnewK⟩
/-! ### texts of errors -/
theorem jf_str {x j pos} (h : x.length ≤ 2000) : JF X (.Constant (.str x) j pos) (fun _ H Q => Q H) := ⟨pf_str h⟩
theorem jf_int {te : TE} (he : JE X e te) : JF X (.FormattedValue e (-1) none pos) (fun σ H Q => te σ H fun v H1 => ∃ i, v = .int i ∧ i.natAbs.log2 < 1920 ∧ Q H1) := ⟨pf_int he.h⟩
theorem jfs_nil : JFs X [] (fun _ H Q => Q H) := ⟨pfs_nil⟩
theorem jfs_cons {t u : St → Hp → (Hp → Prop) → Prop} (h1 : JF X e t) (h2 : JFs X es u) (hs : evalEach (e :: es) X.env = eval e X.env :: evalEach es X.env) : JFs X (e :: es) (fun σ H Q => t σ H fun H1 => u σ H1 Q) := ⟨pfs_cons h1.h h2.h hs⟩
theorem je_fstr {v1 v2 : Expr} {rest : List Expr} {t : St → Hp → (Hp → Prop) → Prop} (h : JFs X (v1 :: v2 :: rest) t) (hn : (v1 :: v2 :: rest).length ≤ 8000) : JE X (.JoinedStr (v1 :: v2 :: rest) pos) (fun σ H Q => t σ H fun H1 => ∀ z : Str, Q (.str z) H1) := ⟨pe_fstr h.h hn⟩
/-! ### tests -/
theorem jt_cmp {op : CmpOp} {r : R2} (ho : JOp X (compareOp op) r) (ha : JE X a ta) (hb : JE X b tb) (h1 : op ≠ .In) (h2 : op ≠ .NotIn) : JT X (.Compare a [op] [b] pos) (tTest (tOp r ta tb)) := ⟨pt_cmpR ho.h ha.h hb.h (nomark b h1 h2)⟩
theorem jt_din (hu : X.A.units + 1 < cLine) (ha : JE X a ta) (hb : JE X b tb) (hm : behindInMarks .In b = false) : JT X (.Compare a [.In] [b] pos) (tB (tDIn ta tb)) := ⟨pt_cmp (pc_din hu ha.h hb.h) hm⟩
theorem jw_and1 (ha : JT X a tA) : JW X (.BoolOp .And [a] pos) tA := ⟨pw_and1 ha.h⟩
theorem jw_or1 (ha : JT X a tA) : JW X (.BoolOp .Or [a] pos) tA := ⟨pw_or1 ha.h⟩
theorem jw_and {rest : List Expr} (ha : JT X a tA) (hb : JW X (.BoolOp .And (b :: rest) pos) tB') : JW X (.BoolOp .And (a :: b :: rest) pos) (tAnd tA tB') := ⟨pw_and ha.h hb.h⟩
theorem jw_or {rest : List Expr} (ha : JT X a tA) (hb : JW X (.BoolOp .Or (b :: rest) pos) tB') : JW X (.BoolOp .Or (a :: b :: rest) pos) (tOr tA tB') := ⟨pw_or ha.h hb.h⟩
theorem jt_bool (h : JW X e tA) : JT X e tA := ⟨h.h.pt⟩
theorem jt_not (ha : JT X a tA) : JT X (.UnaryOp .Not a pos) (tNot tA) := ⟨pt_not ha.h⟩
def PlainT (a : Expr) : Prop := ∀ (env : Env) (whole : Sem Value), isTrue a env whole = (do let v ← whole; standAt a.pos; holding [v] (truthy v))
theorem pl_name : PlainT (.Name x p) := fun _ _ => rfl
theorem pl_call {kw} : PlainT (.Call a es kw p) := fun _ _ => rfl
def tTru (K : PySem.W.Frag) (ta : TE) : TT := fun σ H Q => ta σ H fun x H' => ∃ k, TruV K x H' k ∧ Q k H'
theorem jt_truth (he : PlainT a) (ha : JE X a ta) : JT X a (tTru X.K ta) := ⟨pt_truth ha.h (he _)⟩
theorem jt_val (he : PlainT a) (ha : JE X a ta) : JT X a (tB ta) := ⟨pt_val ha.h (he _)⟩
end

section
variable {X : Cx} {CX : CXT} {k : Nat} {f C : Addr} {fd : FuncData} {ps : List Str} {sp : Sp} {E : XK} {x m : Str} {p pos apos : Pos} {e o : Expr} {es : List Expr} {ta : TE} {t : TA} {id Ty : String} {r : List V → Hp → VK → Prop}
/-! ### calls -/
theorem je_call (n : Nm x) (hg : X.env.scope.names.lookup x = some .globalImplicit) (F : FnOk X.prog X.w X.K X.mg X.base CX k f fd ps sp) (hr : Room k X.A) (hm : X.mg x = some (.ref f)) (hk : PySem.W.keepIn X.K (.ref f) = true) (hb : Binds X.K fd ps []) (hx : Passes CX X E)
    (s : Star1 e) (z : NoStar es) (ha : JA X (e :: es) t) : JE X (.Call (.Name x p) (e :: es) [] pos) (tCall sp [] E t) := ⟨fe_call n hg F hr hm hk hb hx s z ha.h⟩
theorem je_callB (n : Nm x) (hg : X.env.scope.names.lookup x = some .globalImplicit) (hc : JCl X (.builtin id) r) (hm : X.mg x = none) (hv : bootBuiltins x = some (.builtin id)) (s : Star1 e) (z : NoStar es) (ha : JA X (e :: es) t) :
    JE X (.Call (.Name x p) (e :: es) [] pos) (tCB r t) := ⟨fe_callB n hg hc.h hm hv s z ha.h⟩
theorem je_callTy (n : Nm x) (hg : X.env.scope.names.lookup x = some .globalImplicit) (hc : JCl X (.type Ty) r) (hm : X.mg x = none) (hv : bootBuiltins x = some (.type Ty)) (s : Star1 e) (z : NoStar es) (ha : JA X (e :: es) t) :
    JE X (.Call (.Name x p) (e :: es) [] pos) (tCB r t) := ⟨fe_callTy n hg hc.h hm hv s z ha.h⟩
theorem je_make (n : Nm x) (hg : X.env.scope.names.lookup x = some .globalImplicit) (M : Mk X.K C f) (F : FnOk X.prog X.w X.K X.mg X.base CX k f fd ps sp) (hr : Room (k + 1) X.A) (hm : X.mg x = some (.ref C)) (hb : Binds X.K fd ps []) (hx : Passes CX X E)
    (s : Star1 e) (z : NoStar es) (ha : JA X (e :: es) t) : JE X (.Call (.Name x p) (e :: es) [] pos) (tMake C sp [] E t) := ⟨fe_make n hg M F hr hm hb hx s z ha.h⟩
theorem je_meth (ab : Base o) (hl : (apos.endLine == pos.line) = true) (hn : es.length < 29) (he : JE X o ta) (c : Cls X.K C) (hm : Meth X.K C m f) (F : FnOk X.prog X.w X.K X.mg X.base CX k f fd ps sp) (hr : Room k X.A) (hb : Binds X.K fd ps []) (hx : Passes CX X E)
    (s : Star1 e) (z : NoStar es) (ha : JA X (e :: es) t) : JE X (.Call (.Attribute o m apos) (e :: es) [] pos) (tMeth C m sp [] E ta t) := ⟨fe_meth ab hl hn he.h c hm F hr hb hx s z ha.h⟩
theorem je_meth0 (ab : Base o) (hl : (apos.endLine == pos.line) = true) (he : JE X o ta) (c : Cls X.K C) (hm : Meth X.K C m f) (F : FnOk X.prog X.w X.K X.mg X.base CX k f fd ps sp) (hr : Room k X.A) (hb : Binds X.K fd ps []) (hx : Passes CX X E) :
    JE X (.Call (.Attribute o m apos) [] [] pos) (tMeth C m sp [] E ta tNil) := ⟨fe_meth0 ab hl he.h c hm F hr hb hx⟩
def xCall (sp : Sp) (t : TA) : TEx := fun σ H Q E => t σ H fun vs H1 => sp (vs ++ []) H1 Q E
def xMake (C : Addr) (sp : Sp) (t : TA) : TEx := fun σ H Q E => t σ H fun vs H1 => ∀ x dx, H1 x = none → H1 dx = none → dx ≠ x →
  sp (.ref x :: (vs ++ [])) (upd (upd H1 dx (.own x)) x (.ins C dx [])) (fun v H2 => v = .non ∧ Q (.ref x) H2) E
def xMeth (C : Addr) (m : Str) (sp : Sp) (ta : TE) (t : TA) : TEx := fun σ H Q E => ta σ H fun x H1 => rMeth C m x H1 (t σ H1 fun vs H2 => sp (x :: (vs ++ [])) H2 Q E)
theorem jex_call (n : Nm x) (hg : X.env.scope.names.lookup x = some .globalImplicit) (F : FnOk X.prog X.w X.K X.mg X.base (CXF X.prog X.w) k f fd ps sp) (hr : Room k X.A) (hm : X.mg x = some (.ref f)) (hk : PySem.W.keepIn X.K (.ref f) = true) (hb : Binds X.K fd ps [])
    (s : Star1 e) (z : NoStar es) (ha : JA X.nox (e :: es) t) : JEx X (.Call (.Name x p) (e :: es) [] pos) (xCall sp t) := ⟨fex_call n hg F hr hm hk hb s z ha.h⟩
theorem jex_meth (ab : Base o) (hl : (apos.endLine == pos.line) = true) (hn : es.length < 29) (he : JE X.nox o ta) (c : Cls X.K C) (hm : Meth X.K C m f) (F : FnOk X.prog X.w X.K X.mg X.base (CXF X.prog X.w) k f fd ps sp) (hr : Room k X.A) (hb : Binds X.K fd ps [])
    (s : Star1 e) (z : NoStar es) (ha : JA X.nox (e :: es) t) : JEx X (.Call (.Attribute o m apos) (e :: es) [] pos) (xMeth C m sp ta t) := ⟨fex_meth ab hl hn he.h c hm F hr hb s z ha.h⟩
end

/-! ### statements -/
def NoComp (e : Expr) : Prop := ∀ (tg : Option Expr) (l : Nat) (env : Env), swapsWith e tg l env = pure false
section
variable {a b c : Expr} {es fs : List Expr} {x : Str} {p q : Pos}
theorem nc_const {k j} : NoComp (.Constant k j p) := fun _ _ _ => rfl
theorem nc_name : NoComp (.Name x p) := fun _ _ _ => rfl
theorem nc_bin {op} : NoComp (.BinOp a op b p) := fun _ _ _ => rfl
theorem nc_call {kw} : NoComp (.Call a es kw p) := fun _ _ _ => rfl
theorem nc_attr : NoComp (.Attribute a x p) := fun _ _ _ => rfl
theorem nc_sub : NoComp (.Subscript a b p) := fun _ _ _ => rfl
theorem nc_list : NoComp (.List es p) := fun _ _ _ => rfl
theorem nc_tuple {k} : NoComp (.Tuple es k p) := fun _ _ _ => rfl
theorem nc_dict {ks} : NoComp (.Dict ks es p) := fun _ _ _ => rfl
end
section
variable {X : Cx} {m : Bool} {st : Stmt} {rest body : List Stmt} {e tg iter o i value c : Expr} {te ta tv ti : TE} {t u tb : TS} {tc : TT} {x f : Str} {pos pos' : Pos} {es : List Expr}
theorem jss_nil : JSs X [] tNext := ⟨pss_nil⟩
theorem jss_cons (h1 : JS X st t) (h2 : JSs X rest u) : JSs X (st :: rest) (tSeq t u) := ⟨pss_cons h1.h h2.h⟩
theorem jss_one (h1 : JS X st t) : JSs X [st] t := ⟨pss_one h1.h⟩
theorem js_expr (n : NoComp e) (he : JE X e te) : JS X (.Expr e pos) (tDrop te) := ⟨ps_expr he.h (n _ _ _)⟩
theorem js_ret (he : JE X e te) : JS X (.Return (some e) pos) (tRet te) := ⟨ps_ret he.h⟩
theorem js_if {a b : List Stmt} (hc : JT X c tc) (ha : JSs X a t) (hb : JSs X b u) : JS X (.If c a b pos) (tIfS tc t u) := ⟨ps_if hc.h ha.h hb.h⟩
theorem js_set {i : Nat} (n : NoComp e) (hN : X.N.Nodup) (hi : X.N[i]? = some x) (hx : X.env.scope.names.lookup x = some .local) (he : JE X e te) : JS X (.Assign [.Name x pos'] e pos) (tAsg te (gName i)) :=
  ⟨ps_set hN hi (Or.inl hx) he.h (n _ _ _) (Or.inr hx)⟩
theorem js_fld (n : NoComp value) (ha : JE X o ta) (hv : JE X value tv) : JS X (.Assign [.Attribute o f pos'] value pos) (sFld X.K ta tv f) := ⟨ps_fld ha.h hv.h (n _ _ _)⟩
theorem js_dput (n : NoComp value) (hu : X.A.units + 1 < cLine) (ho : JE X o ta) (hi : JE X i ti) (hv : JE X value tv) : JS X (.Assign [.Subscript o i pos'] value pos) (sDPut ta ti tv) := ⟨ps_dput hu ho.h hi.h hv.h (n _ _ _)⟩
theorem jg_name {i : Nat} (hN : X.N.Nodup) (hi : X.N[i]? = some x) (hx : X.env.scope.names.lookup x = some .local) : JG X (.Name x pos) (gName i) := ⟨pg_name hN hi (Or.inl hx) (Or.inr hx)⟩
theorem jg_sub {tS : TSet} (ho : JE X o ta) (hi : JE X i ti) (hs : JPu X tS) (ha : ∀ v, assign (.Subscript o i pos) X.env v = (do
      let ov ← holding [v] (eval o X.env)
      let iv ← holding [v, ov] (eval i X.env)
      standAt pos
      holding [v, ov, iv] (setItem ov iv v)
      release [v, ov, iv] [])) : JG X (.Subscript o i pos) (gSub ta ti tS) := ⟨pg_sub ho.h hi.h hs.h ha⟩
theorem js_asg {g : TG} (n : NoComp e) (he : JE X e te) (hg : JG X tg g) (hw : swappedStores [tg] e X.env = pure none) (h1 : (assignEach [tg] X.env).map (·.2) = [assign tg X.env]) : JS X (.Assign [tg] e pos) (tAsg te g) :=
  ⟨ps_asg he.h hg.h (n _ _ _) hw h1⟩
theorem ji_list (hl : JE X e te) : JI X tg e (iList X.K te) := ⟨pi_list hl.h⟩
theorem ji_range1 {a : Expr} {ta : TA} {p : Pos} (hg : X.env.scope.names.lookup ("range" : Str) = some .globalImplicit) (hm : X.mg "range" = none) (s : Star1 a) (ha : JA X [a] ta) : JI X tg (.Call (.Name "range" p) [a] [] pos) (iRng1 ta) := ⟨pi_range1 hg hm ha.h (s _ _)⟩
theorem js_for {wi : TI} {g : TG} (hp : PassesOwn (model X.prog X.w) X.A X.env X.xe) (hc : X.calm = true) (hi : JI X tg iter wi) (hg : JG X tg g) (hb : JSs X body tb) (hs : ∀ x, foldedSetIterable iter X.env x = pure x) : JS X (.For tg iter body [] pos) (tFor wi g tb) :=
  ⟨ps_for hp hc hi.h hg.h hb.h hs⟩
theorem js_while (hp : PassesOwn (model X.prog X.w) X.A X.env X.xe) (hc : JT X c tc) (hb : JSs X body tb) : JS X (.While c body [] pos) (tWhile tc tb) := ⟨ps_while hp hc.h hb.h⟩
end
/-! ### with errors -/
section
variable {X : Cx} {m : Bool} {st : Stmt} {rest sts : List Stmt} {e : Expr} {x : Str} {pos pos' : Pos} {c : Expr} {tc : TT} {a b : List Stmt} {te : TEx}
theorem jx {t : TS} (h : JS X.nox st t) : JSx X m st (fun D _ => t D) := ⟨px h.h⟩
theorem jssx_nil : JSsx X m [] (fun D _ σ H => D.nx σ H) := ⟨pssx_nil⟩
theorem jssx_cons {t u : TSx} (h1 : JSx X m st t) (h2 : JSsx X m rest u) : JSsx X m (st :: rest) (xSeq t u) := ⟨pssx_cons h1.h h2.h⟩
theorem jssx_one {t : TSx} (h1 : JSx X m st t) : JSsx X m [st] t := ⟨pssx_one h1.h⟩
def xIf (tc : TT) (t u : TSx) : TSx := fun D DX σ H => tc σ H fun k H1 => if k = true then t D DX σ H1 else u D DX σ H1
theorem jsx_if {t u : TSx} (hc : JT X.nox c tc) (ha : JSsx X m a t) (hb : JSsx X m b u) : JSx X m (.If c a b pos) (xIf tc t u) := ⟨psx_if hc.h ha.h hb.h⟩
def xSet (i : Nat) (te : TEx) : TSx := fun D DX σ H => te σ H (fun v H1 => D.nx (σ.set i (some v)) H1) (DX σ)
theorem jsx_set {i : Nat} (n : NoComp e) (hN : X.N.Nodup) (hi : X.N[i]? = some x) (hx : X.env.scope.names.lookup x = some .local) (he : JEx X e te) : JSx X m (.Assign [.Name x pos'] e pos) (xSet i te) := ⟨psx_set hN hi (Or.inl hx) he.h (n _ _ _) (Or.inr hx)⟩
def xExpr (te : TEx) : TSx := fun D DX σ H => te σ H (fun _ H1 => D.nx σ H1) (DX σ)
theorem jsx_expr (n : NoComp e) (he : JEx X e te) : JSx X m (.Expr e pos) (xExpr te) := ⟨psx_expr he.h (n _ _ _)⟩
def xRet (te : TEx) : TSx := fun D DX σ H => te σ H D.rt (DX σ)
theorem jsx_ret (he : JEx X e te) : JSx X m (.Return (some e) pos) (xRet te) := ⟨psx_ret he.h⟩
end
section
variable {X : Cx} {m : Bool} {x : Str} {C : Addr} {B newId initId : String} {bmB : List Value} {np cpos pos : Pos} {e0 : Expr} {rest : List Expr} {t : TA}
def xRaise (C : Addr) (t : TA) : TSx := fun D DX σ H => t σ H fun vs H1 => vs.length ≤ sizeLine ∧ DX σ (.ref C) none H1
def xRaise0 (C : Addr) : TSx := fun D DX σ H => DX σ (.ref C) none H
theorem jsx_raise (nn : Nm x) (hc : X.calm = true) (hg : X.env.scope.names.lookup x = some .globalImplicit) (hm : X.mg x = some (.ref C)) (hn : PySem.W.nsIn X.K mainGlobals x = some (some (.ref C))) (hq : PySem.W.excIn X.K C bmB newId = true) (FB : ExcBaseFacts B newId initId bmB)
    (s : Star1 e0) (z : NoStar rest) (ha : JA X.nox (e0 :: rest) t) : JSx X true (.Raise (some (.Call (.Name x np) (e0 :: rest) [] cpos)) none pos) (xRaise C t) := ⟨psx_raise hc hg hm hn hq FB ha.h (s _ _) (z _ _) nn.db⟩
end
section
variable {X : Cx} {body suite : List Stmt} {b0 : Stmt} {c n : Str} {cp hpos pos : Pos} {i : Nat} {Cc : Addr} {tb : TSx} {ts : TS}
end
/-! ### a list's append -/
theorem je_append {X : Cx} {o e : Expr} {to te : TE} {apos cpos : Pos} (ab : Base o) (hl : (apos.endLine == cpos.line) = true) (s : Star1 e) (ho : JE X o to) (ha : JE X e te) :
    JE X (.Call (.Attribute o "append" apos) [e] [] cpos) (tBM X.K "list" rAppend to (tCons te tNil)) :=
  ⟨pe_bm PySem.F.plainAttrs_list PySem.F.slot_list_append PySem.F.type_list_append mt_append ho.h (pac s ha.h pa_nil) (ab _ _ _) (by
    have e1 : (backTo cpos (starEach [e] X.env)).all (fun x => !x.1) = true := all_not_of (ns_cons s ns_nil cpos X.env)
    rw [e1]
    rfl) hl (s _ _) rfl⟩
end L2

set_option Elab.async false
set_option linter.all false
set_option maxRecDepth 100000
set_option maxHeartbeats 4000000
/-! statement by statement: what stands behind is a letter R -/
namespace L2
open PySem PySem.Spec PyProof.Rows
theorem seq_step {t u : TS} {D : Ends} {σ : St} {H : Hp} (h : ∀ R : St → Hp → Prop, (∀ σ' H', u D σ' H' → R σ' H') → t { D with nx := R } σ H) : tSeq t u D σ H := h _ fun _ _ x => x
theorem xseq_step {t u : TSx} {D : Ends} {DX : St → XK} {σ : St} {H : Hp} (h : ∀ R : St → Hp → Prop, (∀ σ' H', u D DX σ' H' → R σ' H') → t { D with nx := R } DX σ H) : xSeq t u D DX σ H := h _ fun _ _ x => x

/-- what a for wants, once its source has come -/
def LoopW (J : It) (g : TG) (tb : TS) (D : Ends) (σ : St) (H1 : Hp) : Prop := ∃ W : Nat → Nat → St → Hp → Prop, (∃ m, W 0 m σ H1) ∧ ∀ i m σ H, W i m σ H →
  (J.stop i H ∧ D.nx σ H) ∨ (J.go i H ∧ ∃ N : St → Hp → Prop, (∀ σ' H', N σ' H' → ∃ m', m' < m ∧ W (i + 1) m' σ' H') ∧ ∀ x H', J.yld i H x H' → g x σ H' fun σ2 H2 => tb { D with nx := N, ct := N, bk := D.nx } σ2 H2)
theorem for_step {wi : TI} {g : TG} {tb : TS} {D : Ends} {σ : St} {H : Hp} (h : ∀ B : It → Hp → Prop, (∀ J H1, LoopW J g tb D σ H1 → B J H1) → wi σ H B) : tFor wi g tb D σ H := h _ fun _ _ x => x
end L2

set_option Elab.async false
set_option linter.all false
set_option maxRecDepth 100000
set_option maxHeartbeats 4000000
/-! list comprehensions -/
namespace L2
open PySem PySem.Spec PyProof.Rows

/-! ### the captured cells -/
def clOf (env : Env) : List (Str × NameKind) → List (Str × Addr) → List (Str × Addr)
  | [], acc => acc
  | y :: r, acc => clOf env r (if y.2 == .free then (y.1, (env.cells.lookup y.1).getD 0) :: acc else acc)
theorem closure_fold {env : Env} : ∀ (names : List (Str × NameKind)) (acc : List (Str × Addr)), (∀ y ∈ names, y.2 = .free → ∃ c, env.cells.lookup y.1 = some c) →
    (forIn names acc fun (y : Str × NameKind) (r : List (Str × Addr)) => (match y with
      | (name, kind) => if (kind == .free) = true then do
          let a ← cellOf env name
          pure (ForInStep.yield ((name, a) :: r))
        else pure (ForInStep.yield r) : Sem (ForInStep (List (Str × Addr))))) = pure (clOf env names acc)
  | [], acc, _ => rfl
  | (n, k) :: r, acc, h => by
    rw [List.forIn_cons]
    have ih := fun acc' => closure_fold r acc' fun y hy => h y (List.mem_cons_of_mem _ hy)
    by_cases hk : k = .free
    · subst hk
      obtain ⟨c, hc⟩ := h (n, .free) List.mem_cons_self rfl
      have e1 : cellOf env n = pure c := by
        unfold cellOf
        rw [hc]
      show (do let a ← cellOf env n; pure (ForInStep.yield ((n, a) :: acc)) : Sem _) >>= _ = _
      rw [e1]
      show (forIn r ((n, c) :: acc) _ : Sem _) = _
      rw [ih]
      show _ = pure (clOf env r ((n, (env.cells.lookup n).getD 0) :: acc))
      rw [hc]
      rfl
    · have hb : (k == NameKind.free) = false := by simpa using hk
      simp only [hb, Bool.false_eq_true, if_false]
      show (forIn r acc _ : Sem _) = _
      rw [ih]
      show _ = pure (clOf env r (if (k == NameKind.free) = true then (n, (env.cells.lookup n).getD 0) :: acc else acc))
      rw [hb]
      rfl
theorem closure_of {env : Env} {scope : Scope} (h : ∀ y ∈ scope.names, y.2 = .free → ∃ c, env.cells.lookup y.1 = some c) : closureFor scope env = pure (clOf env scope.names []) := by
  exact congrArg (fun m : Sem (List (Str × Addr)) => m >>= pure) (closure_fold scope.names [] h)
theorem clOf_lookup {env : Env} {n : Str} : ∀ (names : List (Str × NameKind)) (acc : List (Str × Addr)), (∀ y ∈ names, y.2 = .free → ∃ c, env.cells.lookup y.1 = some c) →
    (clOf env names acc).lookup n = if (names.any fun y => y.1 == n && y.2 == .free) = true then env.cells.lookup n else acc.lookup n
  | [], acc, _ => rfl
  | (m, k) :: r, acc, h => by
    have ih := fun acc' => clOf_lookup (n := n) r acc' fun y hy => h y (List.mem_cons_of_mem _ hy)
    unfold clOf
    rw [ih, List.any_cons]
    by_cases hk : k = .free
    · subst hk
      obtain ⟨c, hc⟩ := h (m, .free) List.mem_cons_self rfl
      by_cases hm : m = n
      · subst hm
        simp [hc]
      · have b1 : (m == n) = false := by simpa using hm
        have b2 : (n == m) = false := by simpa using fun z => hm z.symm
        simp [b1, b2, List.lookup_cons]
    · have hb : (k == NameKind.free) = false := by simpa using hk
      simp [hb]
theorem lookup_map_keys {f : Str × NameKind → Str × NameKind} (hf : ∀ y, (f y).1 = y.1) {n : Str} : ∀ names : List (Str × NameKind), (names.map f).lookup n = (names.lookup n).map fun k => (f (n, k)).2
  | [] => rfl
  | (m, k) :: r => by
    have ih := lookup_map_keys hf (n := n) r
    rw [List.map_cons]
    have e : f (m, k) = (m, (f (m, k)).2) := Prod.ext (hf (m, k)) rfl
    rw [e, List.lookup_cons, List.lookup_cons]
    by_cases hm : n = m
    · subst hm
      simp
    · have b : (n == m) = false := by simpa using hm
      simp [b, ih]
theorem lookup_relabel {scope : Scope} {env : Env} {n : Str} : (relabel scope env).names.lookup n =
    (scope.names.lookup n).map fun k => if (k == .free && env.scope.kind == .function && env.kindOf n == some .cell) = true then .cell else k := by
  unfold relabel
  dsimp only
  rw [lookup_map_keys (f := fun y => if (y.2 == .free && env.scope.kind == .function && env.kindOf y.1 == some .cell) = true then (y.1, .cell) else (y.1, y.2)) (fun y => by split <;> rfl)]
  congr 1
  funext k
  dsimp only
  split <;> rfl

/-! ### the block's context -/
def cmpCx (X : Cx) (N' : List Str) (scope : Scope) (C : Addr) (cl : List (Str × Addr)) (s0 : Shared) (H0 : Hp) (ex : List Addr) (pn : List (Addr × Obj)) : Cx :=
  { X with N := N', s₀ := s0, H₀ := H0, env := compEnvC scope cl C X.env, outer := X.stack, stack := X.stack, ex := ex, fn := fun _ => false, pn := pn, xe := fun _ _ => False }
structure CompSc (X : Cx) (scope : Scope) (x : Str) (cs : List Nat) (ys : List Str) : Prop where
  kind : scope.kind = .function
  nocell : ∀ y ∈ scope.names, y.2 ≠ .cell
  loc : ∀ y ∈ scope.names, y.2 = .local → scope.names.lookup y.1 = some .local
  var : scope.names.lookup x = some .local
  nd : (x :: ys).Nodup
  free : ∀ y ∈ scope.names, y.2 = .free → X.env.scope.names.lookup y.1 = some .cell
  len : cs.length = ys.length
  cap : ∀ (i : Nat) (j : Nat) (y : Str), cs[i]? = some j → ys[i]? = some y → X.N[j]? = some y ∧ scope.names.lookup y = some .free
def caps (σ : St) (cs : List Nat) : St := cs.map fun j => (σ[j]?).getD none
section
variable {X : Cx} {scope : Scope} {x : Str} {cs : List Nat} {ys : List Str} {pins : List (Addr × Obj)} {σ : St} {H : Hp} {s : Shared}
theorem cells_of (S : CompSc X scope x cs ys) (I : Inv X pins σ H s) : ∀ y ∈ scope.names, y.2 = .free → ∃ c, X.env.cells.lookup y.1 = some c := fun y hy hf => I.ok.has y.1 (.inl (S.free y hy hf))
theorem cells_sub (S : CompSc X scope x cs ys) (I : Inv X pins σ H s) {n : Str} {c : Addr} (h : (clOf X.env scope.names []).lookup n = some c) : X.env.cells.lookup n = some c := by
  rw [clOf_lookup _ _ (cells_of S I)] at h
  split at h
  · exact h
  · cases h
theorem free_any {names : List (Str × NameKind)} {n : Str} (h : names.lookup n = some .free) : (names.any fun y => y.1 == n && y.2 == .free) = true := by
  induction names with
  | nil => cases h
  | cons y r ih =>
    obtain ⟨m, k⟩ := y
    rw [List.lookup_cons] at h
    rw [List.any_cons]
    by_cases hm : n = m
    · subst hm
      simp only [beq_self_eq_true] at h
      cases h
      simp
    · have b : (n == m) = false := by simpa using hm
      rw [b] at h
      rw [ih h, Bool.or_true]
theorem mem_of_lookup {names : List (Str × NameKind)} {n : Str} {k : NameKind} (h : names.lookup n = some k) : (n, k) ∈ names := by
  induction names with
  | nil => cases h
  | cons y r ih =>
    obtain ⟨m, k'⟩ := y
    rw [List.lookup_cons] at h
    by_cases hm : n = m
    · subst hm
      simp only [beq_self_eq_true] at h
      cases h
      exact List.mem_cons_self
    · have b : (n == m) = false := by simpa using hm
      rw [b] at h
      exact List.mem_cons_of_mem _ (ih h)
/-- the block at its start: the list l is there, the block's frame C too -/
theorem comp_start (S : CompSc X scope x cs ys) {h4 : Heap} {fp : List Addr} (I : Inv X pins σ H s) (hn4 : h4.Ns s.heap.objs.size fun _ => none) (k4 : ∀ b o, s.heap.get? b = some o → h4.get? b = some o)
    (hf : ∀ b ∈ fp, FpOk X pins H b) (ho : ∀ b ∈ fp, ∃ o, s.heap.get? b = some o) :
    Inv (cmpCx X (x :: ys) scope s.heap.objs.size (clOf X.env scope.names []) s H fp (X.pn ++ pins)) [] (none :: caps σ cs) H { s with heap := h4 } := by
  have lt : ∀ {b : Addr} {o : Obj}, s.heap.get? b = some o → b ≠ s.heap.objs.size := fun e => Nat.ne_of_lt (Heap.lt_size e)
  have kd : (relabel scope X.env).kind = .function := S.kind
  refine ⟨⟨I.ok.mod, kd, I.ok.glob, I.ok.blt, Nat.le_refl _, fun a b c e1 e2 => I.ok.inj a b c (cells_sub S I e1) (cells_sub S I e2), fun n hn => ?_, fun n c e => (by cases e), I.ok.hd, I.ok.frames, .inl rfl, fun b hb => ⟨?_, fun n c e => ?_⟩, fun b o e => I.bs b o e, ?_, fun b o e hb => ?_, fun b hb => ?_, I.stack, I.stkFree⟩,
    rfl, I.bare, Un.kept k4, ⟨_, hn4, fun i n v e1 e2 e3 => ?_⟩, fun n c e => ?_, I.hok.fresh (Nat.le_refl _), fun n c e => I.freeC n c (cells_sub S I e), fun p hp => ?_, I.hok.kept k4, ?_⟩
  · -- has
    show ∃ c, (clOf X.env scope.names []).lookup n = some c
    have hn : (relabel scope X.env).names.lookup n = some .cell ∨ (relabel scope X.env).names.lookup n = some .free := hn
    have fr : scope.names.lookup n = some .free := by
      rw [lookup_relabel] at hn
      cases q : scope.names.lookup n with
      | none => rw [q] at hn; simp at hn
      | some k =>
        rw [q] at hn
        have nc : k ≠ .cell := S.nocell (n, k) (mem_of_lookup q)
        by_cases hk : k = .free
        · rw [hk]
        · exfalso
          have hb : (k == NameKind.free) = false := by simpa using hk
          simp only [hb, Bool.false_and, Option.map_some, Option.some.injEq, Bool.false_eq_true, if_false] at hn
          rcases hn with z | z
          · exact nc z
          · exact hk z
    obtain ⟨c, hc⟩ := cells_of S I (n, .free) (mem_of_lookup fr) rfl
    exact ⟨c, by rw [clOf_lookup _ _ (cells_of S I), if_pos (free_any fr)]; exact hc⟩
  · obtain ⟨o, e⟩ := ho b hb
    exact lt e
  · exact (hf b hb).2.2.2.2.1 n c (cells_sub S I e)
  · exact Nat.le_trans I.ok.bsz I.sz
  · obtain ⟨_, _, _, z, _⟩ := hf b hb
    rcases z with z | z
    · exact I.ok.noex b o e z
    · exact absurd (Nat.lt_of_lt_of_le (Heap.lt_size e) (Nat.le_trans I.ok.bsz z)) (Nat.lt_irrefl _)
  · obtain ⟨_, z1, z2, _⟩ := hf b hb
    intro z
    rcases List.mem_cons.mp (I.stkSub b z) with w | w
    · exact z1 w
    · exact z2 w
  · -- loc
    have e1 : (x :: ys)[i]? = some n := e1
    have e2 : (none :: caps σ cs)[i]? = some (some v) := e2
    cases i with
    | zero => simp at e2
    | succ i =>
      rw [List.getElem?_cons_succ] at e1 e2
      unfold caps at e2
      rw [List.getElem?_map] at e2
      cases q : cs[i]? with
      | none => rw [q] at e2; cases e2
      | some j =>
        rw [q] at e2
        obtain ⟨c1, c2⟩ := S.cap i j n q e1
        have e2' : (σ[j]?).getD none = some v := Option.some.inj e2
        have e4 : σ[j]? = some (some v) := by
          cases q2 : σ[j]? with
          | none => rw [q2] at e2'; cases e2'
          | some w => rw [q2] at e2'; exact congrArg some e2'
        have kc : X.env.scope.names.lookup n = some .cell := S.free (n, .free) (mem_of_lookup c2) rfl
        obtain ⟨m, hm, hl⟩ := I.loc
        obtain ⟨u, r, lk⟩ := hl j n v c1 e4 (.inr (.inl kc))
        refine ⟨u, r, ?_⟩
        rcases lk with ⟨kl, _⟩ | ⟨_, c, ec, o, hoc, hdc⟩
        · have kl' : X.env.scope.names.lookup n = some .local := kl
          rw [kc] at kl'
          cases kl'
        · refine .inr ⟨.inl ?_, c, ?_, o, k4 _ _ hoc, hdc⟩
          · show (relabel scope X.env).names.lookup n = some .cell
            rw [lookup_relabel, c2]
            have b1 : (X.env.scope.kind == ScopeKind.function) = true := by rw [I.ok.kind]; rfl
            have b2 : (X.env.kindOf n == some NameKind.cell) = true := by
              show (X.env.scope.names.lookup n == some NameKind.cell) = true
              rw [kc]
              rfl
            simp [b1, b2]
          · show (clOf X.env scope.names []).lookup n = some c
            rw [clOf_lookup _ _ (cells_of S I), if_pos (free_any c2)]
            exact ec
  · obtain ⟨v, o, q, d⟩ := I.cell n c (cells_sub S I e)
    exact ⟨v, o, k4 _ _ q, d⟩
  · have hp : p ∈ (X.pn ++ pins) ++ [] := hp
    rw [List.append_nil] at hp
    obtain ⟨e, n, ne, nf, d⟩ := I.pin p hp
    refine ⟨k4 _ _ e, n, lt e, fun z => ?_, d⟩
    rcases List.mem_cons.mp (I.stkSub _ z) with w | w
    · exact ne w
    · exact nf w
  · show (none :: caps σ cs).length = (x :: ys).length
    unfold caps
    rw [List.length_cons, List.length_map, S.len, List.length_cons]
end

section
variable {prog : Program} {w : World} {A : Around} {R : Result → Shared → Prop} {s : Shared}
theorem comp_loop {elt target iter : Expr} {ifs : List Expr} {scope : Scope} {pos : Pos} {it acc : Value} {env : Env} (I : Nat → Shared → Prop)
    (turn : ∀ n s, I n s → wpAny (model prog w) A (pyNext it) (fun r s₁ => match r with
      | none => R (.ok .next) s₁
      | some v => wpAny (model prog w) A (letOwnedTupleGo target it v) (fun _ s₀ => wpAny (model prog w) A (assign target env v) (fun _ s₂ =>
          wpAny (model prog w) A (forIn ifs true fun c r => if r = true then do let ok ← isTrue c env (eval c env); pure (ForInStep.yield ok) else pure (ForInStep.yield r)) (fun ok s₃ =>
            if ok = true then wpAny (model prog w) A (eval elt env) (fun x s₄ =>
              wpAny (model prog w) A (call (.builtin "list.append") [acc, x]) (fun _ s₅ => ∃ m, m < n ∧ I m s₅) (fun _ _ => False) s₄) (fun _ _ => False) s₃
            else ∃ m, m < n ∧ I m s₃) (fun _ _ => False) s₂) (fun _ _ => False) s₀) (fun _ _ => False) s₁) (fun _ _ => False) s)
    (n : Nat) (h : I n s) : codeAny (model prog w) A (.compLoop (.ListComp elt [⟨target, iter, ifs, 0⟩] scope pos) 0 it acc env) R s := by
  refine codeAny_loop rfl I (fun n s hI => ?_) n h
  show wpAny _ A ((compTurn (.ListComp elt [⟨target, iter, ifs, 0⟩] scope pos) 0 it acc env).onRaise (fun x => do noteFrame x env; theTreesLotGoes x)) _ _ s
  refine wpAny_noted ?_
  rw [compTurn_list]
  refine wpAny_bind (wpAny_standAt (wpAny_bind (wpAny_mono (turn n s hI) (fun r s₁ h₁ => ?_) fun _ _ h' => h'.elim)))
  cases r with
  | none => exact wpAny_pure h₁
  | some v =>
    refine wpAny_bind (wpAny_mono h₁ (fun _ s₀ h₀ => ?_) fun _ _ h' => h'.elim)
    refine wpAny_bind (wpAny_mono h₀ (fun _ s₂ h₂ => wpAny_bind (wpAny_mono h₂ (fun ok s₃ h₃ => ?_) fun _ _ h' => h'.elim)) fun _ _ h' => h'.elim)
    cases ok with
    | false => exact wpAny_pure ⟨rfl, h₃⟩
    | true =>
      exact wpAny_bind (wpAny_bind (wpAny_mono h₃ (fun x s₄ h₄ => wpAny_bind (wpAny_mono h₄ (fun _ s₅ h₅ => wpAny_pure (wpAny_pure ⟨rfl, h₅⟩)) fun _ _ h' => h'.elim)) fun _ _ h' => h'.elim))
end

/-- the tests of a clause: none, or one -/
def PIf (X : Cx) (ifs : List Expr) (t : TT) : Prop :=
  ∀ (pins : List (Addr × Obj)) (s : Shared) (σ : St) (H : Hp) (Q : Bool → Hp → Prop), Inv X pins σ H s → t σ H Q →
    wpAny (model X.prog X.w) X.A (forIn ifs true fun c r => if r = true then do let ok ← isTrue c X.env (eval c X.env); pure (ForInStep.yield ok) else pure (ForInStep.yield r)) (TP X pins σ Q) X.xe s
theorem pif_nil {X : Cx} : PIf X [] (fun _ H Q => Q true H) := fun _ _ _ H _ I h => wpAny_tests_nil ⟨H, I, h⟩
/-- what a comprehension wants: W by the turn, a measure, the items so far, the heap -/
def rComp (l : Addr) (J : It) (tt : TT) (te : TE) (cv : St) (Q : VK) (H1 : Hp) : Prop :=
  ∃ W : Nat → Nat → List V → Hp → Prop, (∃ m, W 0 m [] (upd H1 l (.lst []))) ∧ ∀ i m ys H2, W i m ys H2 → H2 l = some (.lst ys) →
    (J.stop i H2 ∧ Q (.ref l) H2) ∨ (J.go i H2 ∧ ∀ v H3, J.yld i H2 v H3 → tt (some v :: cv) H3 fun b H4 => if b = true then
      te (some v :: cv) H4 fun y H5 => H5 l = some (.lst ys) ∧ ys.length < sizeLine ∧ ∃ m', m' < m ∧ W (i + 1) m' (ys ++ [y]) (upd H5 l (.lst (ys ++ [y])))
      else H4 l = some (.lst ys) ∧ ∃ m', m' < m ∧ W (i + 1) m' ys H4)
def tComp (cs : List Nat) (wi : TI) (tt : TT) (te : TE) : TE := fun σ H Q => wi σ H fun J H1 => ∀ l, H1 l = none → rComp l J tt te (caps σ cs) Q H1

section
variable {X : Cx} {scope : Scope} {x : Str} {cs : List Nat} {ys : List Str} {pins : List (Addr × Obj)} {σ : St} {H : Hp} {s : Shared}
theorem comp_back {fp : List Addr} {N' : List Str} {C : Addr} {cl : List (Str × Addr)} {pins' : List (Addr × Obj)} {σ' : St} {H' : Hp} {s' : Shared} (I : Inv X pins σ H s) (hf : ∀ b ∈ fp, FpOk X pins H b)
    (IY : Inv (cmpCx X N' scope C cl s H fp (X.pn ++ pins)) pins' σ' H' s') : Inv X pins σ H' s' :=
  I.call' (ch := fp) IY.os IY.base IY.hok IY.bare fun b hb => ⟨(hf b hb).2.2.2.1, (hf b hb).2.1, (hf b hb).2.2.2.2.1, (hf b hb).2.2.2.2.2⟩
/-- the block runs; R: what is wanted behind it -/
theorem comp_run {elt iter : Expr} {px : Pos} {ifs : List Expr} {pos : Pos} {tt : TT} {te : TE} {fp : List Addr} {it : Addr} {tn : Nat → Heap → Prop} {J : It} {Q : VK} {E : Value → Shared → Prop} {RR : Value → Addr → Result → Shared → Prop}
    (hc : X.calm = true) (S : CompSc X scope x cs ys) (ht : ∀ C cl s0 H0 ex pn, PIf (cmpCx X (x :: ys) scope C cl s0 H0 ex pn) ifs tt) (he : ∀ C cl s0 H0 ex pn, PE (cmpCx X (x :: ys) scope C cl s0 H0 ex pn) elt te)
    (I : Inv X pins σ H s) (T : Turn X.prog X.w X.K (.Name x px) J fp it tn) (st : tn 0 s.heap) (hf : ∀ b ∈ fp, FpOk X pins H b) (h : ∀ l, H l = none → rComp l J tt te (caps σ cs) Q H)
    (hRR : ∀ l C s' H' m, Inv X pins σ H' s' → s'.heap.Ns C m → s.heap.objs.size ≤ C → C ≠ l → H' C = none → Q (.ref l) H' → RR (.ref l) C (.ok .next) s') :
    wpAny (model X.prog X.w) X.A (newList []) (fun acc s₃ => wpAny (model X.prog X.w) X.A (newFunctionEnv scope X.env.globals (clOf X.env scope.names []) [] X.env.qual none .none (some X.env)) (fun cenv s₄ =>
      codeAny (model X.prog X.w) X.A (.compStart (.ListComp elt [⟨.Name x px, iter, ifs, 0⟩] scope pos) 0 (.ref it) acc { cenv with scope := relabel scope X.env }) (RR acc cenv.locals) s₄) E s₃) E s := by
  have hfr : H s.heap.objs.size = none := I.hok.fresh (Nat.le_refl _)
  refine wpAny_newObj_type (wpAny_newFunctionEnv S.nocell (by intro y hy; simp at hy) (fun h₁ hns₁ hsb₁ => ?_) S.kind)
  have I3 := Inv.lnew (its := []) (t' := s.toks) I (.nil : Vals [] []) (Nat.zero_le _)
  obtain ⟨W, ⟨m0, w0⟩, turn⟩ := h _ hfr
  generalize hs3 : ({ s with heap := s.heap.push { cls := .type "list", data := .seq ([] : List Value).toArray }, toks := s.toks } : Shared) = s3 at I3
  have hsz : s3.heap.objs.size = s.heap.objs.size + 1 := by rw [← hs3]; exact Heap.size_push ..
  have old3 : ∀ b o, s.heap.get? b = some o → s3.heap.get? b = some o := fun b o e => by rw [← hs3]; exact Heap.get?_push_of_some _ e
  have objs : ∀ b ∈ fp, ∃ o, s.heap.get? b = some o := fun b hb => by
    obtain ⟨o, e, _⟩ := T.obj 0 _ st b hb
    exact ⟨o, e⟩
  have neL : ∀ b ∈ fp, b ≠ s.heap.objs.size := fun b hb => by
    obtain ⟨o, e⟩ := objs b hb
    exact Nat.ne_of_lt (Heap.lt_size e)
  have hf3 : ∀ b ∈ fp, FpOk X pins (upd H s.heap.objs.size (.lst [])) b := fun b hb => ⟨by rw [upd_ne (neL b hb)]; exact (hf b hb).1, (hf b hb).2⟩
  have hns₁ : h₁.Ns s3.heap.objs.size fun _ => none := by rw [← hs3]; exact hns₁
  have k4 : ∀ b o, s3.heap.get? b = some o → h₁.get? b = some o := fun b o e => by
    have hb : b ≠ s3.heap.objs.size := Nat.ne_of_lt (Heap.lt_size e)
    rw [← hs3] at e hb
    exact hsb₁.extBut b o hb (Heap.get?_push_of_some _ e)
  have I4 := comp_start (x := x) (ys := ys) (cs := cs) (σ := σ) S I3 hns₁ k4 hf3 fun b hb => let ⟨o, e⟩ := objs b hb; ⟨o, old3 b o e⟩
  have st4 : tn 0 h₁ := T.keep _ _ _ st fun b _ o e => k4 b o (old3 b o e)
  have fr4 : ∀ b ∈ fp, upd H s.heap.objs.size (.lst []) b = none := fun b hb => (hf3 b hb).1
  -- the block's context
  generalize hY : cmpCx X (x :: ys) scope s3.heap.objs.size (clOf X.env scope.names []) s3 (upd H s.heap.objs.size (.lst [])) fp (X.pn ++ pins) = Y at I4
  have hYp : Y.prog = X.prog := by rw [← hY]; rfl
  have hYw : Y.w = X.w := by rw [← hY]; rfl
  have hYK : Y.K = X.K := by rw [← hY]; rfl
  have hYA : Y.A = X.A := by rw [← hY]; rfl
  have hYc : Y.calm = true := by rw [← hY]; exact hc
  have hYN : Y.N = x :: ys := by rw [← hY]; rfl
  have hYe : Y.env = compEnvC scope (clOf X.env scope.names []) s3.heap.objs.size X.env := by rw [← hY]; rfl
  have hYx : Y.xe = fun _ _ => False := by rw [← hY]; rfl
  have het : PE Y elt te := by rw [← hY]; exact he _ _ _ _ _ _
  have htt : PIf Y ifs tt := by rw [← hY]; exact ht _ _ _ _ _ _
  have hloc : Y.env.scope.names.lookup x = some .local := by rw [hYe]; exact lookup_relabel_local S.var
  have hg : PG Y (.Name x px) (gName 0) := pg_name (by rw [hYN]; exact S.nd) (by rw [hYN]; rfl) (.inl hloc) (.inr hloc)
  have fpY : ∀ {H' : Hp}, (∀ b ∈ fp, H' b = none) → ∀ b ∈ fp, FpOk Y [] H' b := fun {H'} hn b hb => by
    have z := I4.ok.exf
    rw [← hY]
    refine ⟨hn b hb, ?_, ?_, .inl hb, fun n c e => ?_, fun p hp => ?_⟩
    · show b ≠ s3.heap.objs.size
      obtain ⟨o, e⟩ := objs b hb
      exact Nat.ne_of_lt (Heap.lt_size (old3 b o e))
    · show b ∉ frs X.stack
      intro w
      rcases List.mem_cons.mp (I.stkSub b w) with w | w
      · exact (hf b hb).2.1 w
      · exact (hf b hb).2.2.1 w
    · exact (hf b hb).2.2.2.2.1 n c (cells_sub S I e)
    · have hp : p ∈ (X.pn ++ pins) ++ [] := hp
      rw [List.append_nil] at hp
      exact (hf b hb).2.2.2.2.2 p hp
  have ap : MtM Y "list.append" rAppend := mt_append
  have loop : ∀ s4 : Shared, s4.heap = h₁ → Inv Y [] (none :: caps σ cs) (upd H s.heap.objs.size (.lst [])) s4 →
      codeAny (model X.prog X.w) X.A (.compLoop (.ListComp elt [⟨.Name x px, iter, ifs, 0⟩] scope pos) 0 (.ref it) (.ref s.heap.objs.size) (compEnvC scope (clOf X.env scope.names []) s3.heap.objs.size X.env))
        (RR (.ref s.heap.objs.size) s3.heap.objs.size) s4 := by
    intro s4 e4 I4
    refine comp_loop (fun n s' => ∃ i ys' H', Inv Y [] (none :: caps σ cs) H' s' ∧ tn i s'.heap ∧ (∀ b ∈ fp, H' b = none) ∧ H' s.heap.objs.size = some (.lst ys') ∧ W i n ys' H') ?_ m0
      ⟨0, [], _, I4, by rw [e4]; exact st4, fr4, upd_same, w0⟩
    rintro n s5 ⟨i, ys', H5, I5, st5, fr5, hl5, w5⟩
    rcases turn i n ys' H5 w5 hl5 with ⟨stop, qn⟩ | ⟨go, step⟩
    · have z := T.done Y hYp hYw hYK hYc i [] s5 _ H5 (fun _ _ => False) I5 (fpY fr5) st5 stop
      rw [hYA] at z
      refine wpAny_mono z (fun r s6 ⟨hr, I6⟩ => ?_) fun _ _ f => f
      subst hr
      obtain ⟨m, hm, _⟩ := I6.loc
      have hC : H5 s3.heap.objs.size = none := by
        have := I6.free
        rw [hYe] at this
        exact this
      have I6' : Inv (cmpCx X (x :: ys) scope s3.heap.objs.size (clOf X.env scope.names []) s3 (upd H s.heap.objs.size (.lst [])) fp (X.pn ++ pins)) [] (none :: caps σ cs) H5 s6 := by rw [hY]; exact I6
      refine hRR _ _ _ H5 m (comp_back I3 hf3 I6') (by rw [hYe] at hm; exact hm) ?_ ?_ hC qn
      · rw [hsz]
        exact Nat.le_succ _
      · rw [hsz]
        exact Nat.ne_of_gt (Nat.lt_succ_self _)
    · have z := T.item Y hYp hYw hYK hYc i [] s5 _ H5 (fun _ _ => False) I5 (fpY fr5) st5 go
      rw [hYA] at z
      refine wpAny_mono z (fun r s6 ⟨u, hr, h6⟩ => ?_) fun _ _ f => f
      subst hr
      refine wpAny_mono h6 (fun _ s7 ⟨v, H7, I7, r7, y7, st7, fr7⟩ => ?_) fun _ _ f => f
      have I7' := I7.pinned (fpY fr7) (T.obj _ _ st7)
      have hg' := hg _ s7 _ H7 v u (fun σ8 H8 => σ8 = some v :: caps σ cs ∧ H8 = H7) I7' r7 ⟨rfl, rfl⟩
      rw [hYp, hYw, hYA, hYe, hYx] at hg'
      refine wpAny_mono hg' (fun _ s8 ⟨σ8, H8, I8, e8, e8'⟩ => ?_) fun _ _ f => f
      subst e8 e8'
      have back : ∀ {σ' : St} {H' : Hp} {s' : Shared}, σ'.length = (none :: caps σ cs : St).length → (∀ (i : Nat) v, (none :: caps σ cs : St)[i]? = some (some v) → σ'[i]? = some (some v)) → Inv Y ([] ++ pinsAt fp s7.heap) σ' H' s' →
          Inv Y [] (none :: caps σ cs) H' s' ∧ tn (i + 1) s'.heap ∧ ∀ b ∈ fp, H' b = none := fun {σ' H' s'} hl hw I' => by
        refine ⟨I'.unpinned.weak hl.symm hw, T.keep _ _ _ st7 fun b hb o e => (I'.pin (b, o) (List.mem_append_right _ (List.mem_append_right _ (mem_pinsAt hb e)))).1, fun b hb => ?_⟩
        obtain ⟨o, e, d⟩ := T.obj _ _ st7 b hb
        exact (I'.pin (b, o) (List.mem_append_right _ (List.mem_append_right _ (mem_pinsAt hb e)))).2.1
      have weak : ∀ (i : Nat) v', (none :: caps σ cs : St)[i]? = some (some v') → (some v :: caps σ cs : St)[i]? = some (some v') := fun i v' e => by
        cases i with
        | zero => simp at e
        | succ i => exact e
      have ht8 := htt _ s8 _ H8 _ I8 (step v H8 y7)
      rw [hYp, hYw, hYA, hYe, hYx] at ht8
      refine wpAny_mono ht8 (fun ok s9 ⟨H9, I9, q9⟩ => ?_) fun _ _ f => f
      cases ok with
      | false =>
        rw [if_neg Bool.false_ne_true] at q9 ⊢
        obtain ⟨hl9, m', hm', w9⟩ := q9
        obtain ⟨J1, J2, J3⟩ := back (σ' := some v :: caps σ cs) rfl weak I9
        exact ⟨m', hm', i + 1, ys', H9, J1, J2, J3, hl9, w9⟩
      | true =>
        rw [if_pos rfl] at q9 ⊢
        have he9 := het _ s9 _ H9 _ I9 q9
        rw [hYp, hYw, hYA, hYe, hYx] at he9
        refine wpAny_mono he9 (fun xv s10 ⟨y, H10, I10, r10, hl10, hz, m', hm', w10⟩ => ?_) fun _ _ f => f
        have ha := ap _ s10 _ H10 (.ref s.heap.objs.size) [y] (.ref s.heap.objs.size) [xv] (fun _ H' => H' = upd H10 s.heap.objs.size (.lst (ys' ++ [y]))) I10 rfl (.cons r10 .nil) ⟨_, ys', y, rfl, rfl, hl10, hz, rfl⟩
        rw [hYp, hYw, hYA, hYx] at ha
        refine wpAny_mono ha (fun _ s11 ⟨_, H11, I11, _, e11⟩ => ?_) fun _ _ f => f
        subst e11
        obtain ⟨J1, J2, J3⟩ := back (σ' := some v :: caps σ cs) rfl weak I11
        exact ⟨m', hm', i + 1, _, _, J1, J2, J3, upd_same, w10⟩
  have go : ∀ (s4 : Shared) (n : Nat), n = s3.heap.objs.size → s4.heap = h₁ → Inv Y [] (none :: caps σ cs) (upd H s.heap.objs.size (.lst [])) s4 →
      codeAny (model X.prog X.w) X.A (.compStart (.ListComp elt [⟨.Name x px, iter, ifs, 0⟩] scope pos) 0 (.ref it) (.ref s.heap.objs.size) (compEnvC scope (clOf X.env scope.names []) n X.env)) (RR (.ref s.heap.objs.size) n) s4 := by
    rintro s4 n rfl e4 I4
    exact codeAny_compStart_list (loop s4 e4 I4) (T.self _ 0 s4 _ _ (by rw [e4]; exact st4) (loop s4 e4 I4))
  refine go _ _ (by rw [← hs3]; rfl) rfl ?_
  clear loop go
  subst hs3
  exact I4
/-- name = [..], where the store comes ahead of the block's end -/
theorem ps_comp {i : Nat} {y : Str} {elt iter : Expr} {px py : Pos} {ifs : List Expr} {pos spos : Pos} {wi : TI} {tt : TT} {te : TE} (hc : X.calm = true) (hN : X.N.Nodup) (hi' : X.N[i]? = some y) (hy : X.env.scope.names.lookup y = some .local)
    (hsw : swapsWith (.ListComp elt [⟨.Name x px, iter, ifs, 0⟩] scope pos) (some (.Name y py)) spos.line X.env = pure true) (S : CompSc X scope x cs ys) (hi : PI X (.Name x px) iter wi)
    (ht : ∀ C cl s0 H0 ex pn, PIf (cmpCx X (x :: ys) scope C cl s0 H0 ex pn) ifs tt) (he : ∀ C cl s0 H0 ex pn, PE (cmpCx X (x :: ys) scope C cl s0 H0 ex pn) elt te) (hs : ∀ x, foldedSetIterable iter X.env x = pure x) :
    PS X (.Assign [.Name y py] (.ListComp elt [⟨.Name x px, iter, ifs, 0⟩] scope pos) spos) (tAsg (tComp cs wi tt te) (gName i)) := by
  intro pins s σ H D I h
  rw [exec_Assign_Name_used _ _ _ _ hsw]
  refine wpAny_bind (wpAny_standAt (wpAny_bind ?_))
  show wpAny _ X.A (do let _ ← comprehension (.ListComp elt [⟨.Name x px, iter, ifs, 0⟩] scope pos) scope X.env _ (newList []) false (eval iter X.env) (some (assign (.Name y py) X.env))) _ _ s
  refine wpAny_bind (wpAny_mono (wpAny_comprehension_free (use := some (assign (.Name y py) X.env)) (Q := fun _ s' => SP X pins D .next s') rfl hs (closure_of (cells_of S I)) S.kind S.loc
    (thn (hi pins s σ H _ I h) fun v s1 h1 => thn h1 fun itv s2 h2 => ?_)) (fun _ s' hq => wpAny_pure (wpAny_pure hq)) fun _ _ e => e)
  obtain ⟨it, fp, tn, J, H2, e, I2, T, st2, f2, hw⟩ := h2
  subst e
  refine comp_run (Q := fun v H' => D.nx (σ.set i (some v)) H') (RR := fun acc C => compPost (model X.prog X.w) X.A X.xe (some (assign (.Name y py) X.env)) (fun _ s' => SP X pins D .next s') acc C) hc S ht he I2 T st2 f2 hw fun l C s' H' m I' hm hC hCl hn q => ?_
  have fp : FpOk X pins H' C := I2.fpOk hC hn
  show wpAny _ X.A (assign (.Name y py) X.env (.ref l)) _ _ _
  refine wpAny_assign_Name (store_ok2 I' hN hi' (.inl hy) (v := .ref l) rfl (fun s3 I3 ⟨a, hsb, ha⟩ => ?_) (.inr hy))
  have hCa : C ≠ a := by
    rcases ha with z | z
    · rw [z]; exact fp.2.1
    · exact fun w => fp.2.2.2.2.1 y a z w.symm
  refine ⟨m, hm.sameBut hsb hCa, fun h' hsb' => ⟨_, H', ?_, q⟩⟩
  exact I3.turned (it := C) (fun b o hb e => hsb'.extBut b o hb e) hn fp.2.1 fp.2.2.2.1 fp.2.2.2.2.1 fp.2.2.2.2.2
end
end L2

set_option Elab.async false
set_option linter.all false
set_option maxRecDepth 100000
set_option maxHeartbeats 4000000
/-! more rules by values -/
namespace L2
open PySem PySem.Spec PyProof.Rows
section
variable {X : Cx}
/-- max(a, b), min(a, b) of ints -/
def rTwo (f : Int → Int → Int) (xs : List V) (H : Hp) (Q : VK) : Prop := ∃ a b : Int, xs = [.int a, .int b] ∧ Q (.int (f a b)) H
theorem rd_two {f : Int → Int → Int} {H : Hp} {Q : VK} {a b : Int} (q : Q (.int (f a b)) H) : rTwo f [.int a, .int b] H Q := ⟨a, b, rfl, q⟩
theorem jc_max (hc : X.calm = true) : JCl X (.builtin "max") (rTwo max) := ⟨by
  intro pins s σ H xs us Q I r h
  obtain ⟨a, b, rfl, q⟩ := h
  obtain ⟨u, u2, rfl, ⟨t, rfl⟩, ⟨t2, rfl⟩⟩ := vals2 r
  refine max_two_ints (I.ok.hd hc) fun h' tk hk => ?_
  refine ⟨.int (max a b), H, I.kept hk, ?_, q⟩
  by_cases c : b > a
  · rw [if_pos c, Int.max_eq_right (by omega)]; exact ⟨_, rfl⟩
  · rw [if_neg c, Int.max_eq_left (by omega)]; exact ⟨_, rfl⟩⟩
end
end L2

set_option Elab.async false
set_option linter.all false
set_option maxRecDepth 100000
set_option maxHeartbeats 4000000
/-! == of tuples and lists, at any depth -/
namespace L2
open PySem PySem.Spec PyProof.Rows
inductive DEq (H : Hp) : Nat → V → V → Bool → Prop where
  | sc {n : Nat} {x y : V} (hx : flatV x = true) (hy : flatV y = true) : DEq H n x y (eqV x y)
  | same {n : Nat} {a : Addr} : DEq H n (.ref a) (.ref a) true
  | tup {n : Nat} {a b : Addr} {xs ys : List V} (ne : a ≠ b) (ha : H a = some (.tup xs)) (hb : H b = some (.tup ys)) (e : Nat → Bool) (h : ∀ (j : Nat) (x y : V), xs[j]? = some x → ys[j]? = some y → DEq H n x y (e j)) :
      DEq H (n + 1) (.ref a) (.ref b) ((List.range (min xs.length ys.length)).all e && xs.length == ys.length)
  | lst {n : Nat} {a b : Addr} {xs ys : List V} (ne : a ≠ b) (ha : H a = some (.lst xs)) (hb : H b = some (.lst ys)) (hl : xs.length = ys.length) (e : Nat → Bool) (h : ∀ (j : Nat) (x y : V), xs[j]? = some x → ys[j]? = some y → DEq H n x y (e j)) :
      DEq H (n + 1) (.ref a) (.ref b) ((List.range xs.length).all e)
  | len {n : Nat} {a b : Addr} {xs ys : List V} (ne : a ≠ b) (ha : H a = some (.lst xs)) (hb : H b = some (.lst ys)) (hl : xs.length ≠ ys.length) : DEq H (n + 1) (.ref a) (.ref b) false
theorem in1_units {A : Around} : A.in1.units = A.units + 1 := rfl
theorem vals_at {xs : List V} {us : List Value} (r : Vals xs us) {j : Nat} (h : j < us.toArray.size) : ∃ x, xs[j]? = some x ∧ RelV x us.toArray[j] := by
  have h' : j < us.length := by simpa using h
  have hx : j < xs.length := by rw [r.length]; exact h'
  obtain ⟨u, e, q⟩ := r.get (List.getElem?_eq_getElem hx)
  rw [List.getElem?_eq_getElem h'] at e
  refine ⟨_, List.getElem?_eq_getElem hx, ?_⟩
  have e' := Option.some.inj e
  simp only [List.getElem_toArray]
  rw [e']
  exact q
section
variable {X : Cx} {pins : List (Addr × Obj)} {σ : St} {H : Hp} {s : Shared}
theorem tup_is {a : Addr} {xs : List V} (I : Inv X pins σ H s) (ha : H a = some (.tup xs)) : ∃ its : List Value, Vals xs its ∧ s.heap.IsTuple a its.toArray := by
  obtain ⟨_, its, r, p⟩ := I.hok a _ ha
  exact ⟨its, r, p⟩
theorem lst_is {a : Addr} {xs : List V} (I : Inv X pins σ H s) (ha : H a = some (.lst xs)) : ∃ its : List Value, Vals xs its ∧ s.heap.IsList a its.toArray := by
  obtain ⟨_, its, n, r, e⟩ := I.hok a _ ha
  exact ⟨its, r, ⟨_, e, rfl, n, rfl⟩⟩
theorem DEq.at {n : Nat} {x y : V} {b : Bool} (d : DEq H n x y b) (I : Inv X pins σ H s) : ∀ {A : Around} {u v : Value}, A.units + n < cLine → RelV x u → RelV y v → SeqAt.EqAt A s u v b := by
  induction d with
  | sc hx hy => exact fun _ rx ry => eqAt_V rx ry hx hy
  | same =>
    intro A u v _ rx ry
    cases rx
    cases ry
    exact SeqAt.EqAt.same _
  | tup ne ha hb e h ih =>
    intro A u v hu rx ry
    cases rx
    cases ry
    obtain ⟨us, r1, t1⟩ := tup_is I ha
    obtain ⟨ws, r2, t2⟩ := tup_is I hb
    have z := SeqAt.RcAt.tuples (e := e) t1 t2 (A := A) (by omega) fun j h1 h2 => by
      obtain ⟨x', ex, rx'⟩ := vals_at r1 h1
      obtain ⟨y', ey, ry'⟩ := vals_at r2 h2
      exact ih j x' y' ex ey (by rw [in1_units]; omega) rx' ry'
    rw [List.size_toArray, List.size_toArray, ← r1.length, ← r2.length] at z
    exact SeqAt.EqAt.of_refs ne z
  | lst ne ha hb hl e h ih =>
    intro A u v hu rx ry
    cases rx
    cases ry
    obtain ⟨us, r1, t1⟩ := lst_is I ha
    obtain ⟨ws, r2, t2⟩ := lst_is I hb
    have z := SeqAt.RcAt.lists (e := e) t1 t2 (A := A) (by rw [List.size_toArray, List.size_toArray, ← r1.length, ← r2.length]; exact hl) (by omega) fun j h1 h2 => by
      obtain ⟨x', ex, rx'⟩ := vals_at r1 h1
      obtain ⟨y', ey, ry'⟩ := vals_at r2 h2
      exact ih j x' y' ex ey (by rw [in1_units]; omega) rx' ry'
    rw [List.size_toArray, ← r1.length] at z
    exact SeqAt.EqAt.of_refs ne z
  | len ne ha hb hl =>
    intro A u v hu rx ry
    cases rx
    cases ry
    obtain ⟨us, r1, t1⟩ := lst_is I ha
    obtain ⟨ws, r2, t2⟩ := lst_is I hb
    exact SeqAt.EqAt.of_refs ne (SeqAt.RcAt.lists_lengths t1 t2 (by rw [List.size_toArray, List.size_toArray, ← r1.length, ← r2.length]; simpa using hl) (by omega))
/-- == and != of two tuples or lists that are not the same object -/
theorem DEq.rc {n : Nat} {p q : Addr} {b : Bool} (ne : p ≠ q) (d : DEq H n (.ref p) (.ref q) b) (I : Inv X pins σ H s) {A : Around} (hu : A.units + n < cLine) : SeqAt.RcAt A s (.ref p) (.ref q) b ∧ SeqAt.RcNeAt A s (.ref p) (.ref q) (!b) := by
  cases d with
  | sc hx hy => cases hx
  | same => exact absurd rfl ne
  | tup ne ha hb e h =>
    obtain ⟨us, r1, t1⟩ := tup_is I ha
    obtain ⟨ws, r2, t2⟩ := tup_is I hb
    have it : ∀ j (h1 : j < us.toArray.size) (h2 : j < ws.toArray.size), SeqAt.EqAt A.in1 s us.toArray[j] ws.toArray[j] (e j) := fun j h1 h2 => by
      obtain ⟨x', ex, rx'⟩ := vals_at r1 h1
      obtain ⟨y', ey, ry'⟩ := vals_at r2 h2
      exact (h j x' y' ex ey).at I (by rw [in1_units]; omega) rx' ry'
    have z := SeqAt.RcAt.tuples (e := e) t1 t2 (A := A) (by omega) it
    have z2 := SeqAt.RcNeAt.tuples (e := e) t1 t2 (A := A) (by omega) it
    rw [List.size_toArray, List.size_toArray, ← r1.length, ← r2.length] at z z2
    exact ⟨z, z2⟩
  | lst ne ha hb hl e h =>
    obtain ⟨us, r1, t1⟩ := lst_is I ha
    obtain ⟨ws, r2, t2⟩ := lst_is I hb
    have hz : us.toArray.size = ws.toArray.size := by rw [List.size_toArray, List.size_toArray, ← r1.length, ← r2.length]; exact hl
    have it : ∀ j (h1 : j < us.toArray.size) (h2 : j < ws.toArray.size), SeqAt.EqAt A.in1 s us.toArray[j] ws.toArray[j] (e j) := fun j h1 h2 => by
      obtain ⟨x', ex, rx'⟩ := vals_at r1 h1
      obtain ⟨y', ey, ry'⟩ := vals_at r2 h2
      exact (h j x' y' ex ey).at I (by rw [in1_units]; omega) rx' ry'
    have z := SeqAt.RcAt.lists (e := e) t1 t2 (A := A) hz (by omega) it
    have z2 := SeqAt.RcNeAt.lists (e := e) t1 t2 (A := A) hz (by omega) it
    rw [List.size_toArray, ← r1.length] at z z2
    exact ⟨z, z2⟩
  | len ne ha hb hl =>
    obtain ⟨us, r1, t1⟩ := lst_is I ha
    obtain ⟨ws, r2, t2⟩ := lst_is I hb
    have hz : (us.toArray.size != ws.toArray.size) = true := by rw [List.size_toArray, List.size_toArray, ← r1.length, ← r2.length]; simpa using hl
    exact ⟨SeqAt.RcAt.lists_lengths t1 t2 hz (by omega), SeqAt.RcNeAt.lists_lengths t1 t2 hz (by omega)⟩
end
/-- x == y, x != y: scalars, or tuples and lists apart -/
def rEq2 : R2 := fun x y H Q => (scal x y = true ∧ Q (.bl (decide (x = y))) H) ∨ (∃ p q b, x = .ref p ∧ y = .ref q ∧ p ≠ q ∧ DEq H 8 x y b ∧ Q (.bl b) H) ∨ ∃ p xs, x = .ref p ∧ y = .ref p ∧ H p = some (.tup xs) ∧ Q (.bl true) H
def rNe2 : R2 := fun x y H Q => (scal x y = true ∧ Q (.bl (!decide (x = y))) H) ∨ (∃ p q b, x = .ref p ∧ y = .ref q ∧ p ≠ q ∧ DEq H 8 x y b ∧ Q (.bl (!b)) H) ∨ ∃ p xs, x = .ref p ∧ y = .ref p ∧ H p = some (.tup xs) ∧ Q (.bl false) H
section
variable {X : Cx}
theorem same_tup {pins : List (Addr × Obj)} {σ : St} {H : Hp} {s : Shared} {p : Addr} {xs : List V} (I : Inv X pins σ H s) (hp : H p = some (.tup xs)) {A : Around} (hu : A.units < cLine) : SeqAt.RcAt A s (.ref p) (.ref p) true ∧ SeqAt.RcNeAt A s (.ref p) (.ref p) false := by
  obtain ⟨us, r1, t1⟩ := tup_is I hp
  have z := SeqAt.RcAt.tuples (e := fun _ => true) t1 t1 (A := A) hu fun j _ _ => SeqAt.EqAt.same _
  have z2 := SeqAt.RcNeAt.tuples (e := fun _ => true) t1 t1 (A := A) hu fun j _ _ => SeqAt.EqAt.same _
  have e : ((List.range (min us.toArray.size us.toArray.size)).all (fun _ => true) && us.toArray.size == us.toArray.size) = true := by simp
  rw [e] at z z2
  exact ⟨z, z2⟩
theorem jo_eqD (hu : X.A.units + 8 < cLine) : JOp X (compareOp .Eq) rEq2 := ⟨by
  intro pins s σ H x y v u Q I rx ry h
  rcases h with h | ⟨p, q, b, rfl, rfl, ne, d, h⟩ | ⟨p, xs, rfl, rfl, hp, h⟩
  · exact op_eq pins s σ H x y v u Q I rx ry h
  · cases rx
    cases ry
    exact (d.rc ne I (by omega)).1 X.prog X.w X.xe _ ⟨.bl b, H, I, rfl, h⟩
  · cases rx
    cases ry
    exact (same_tup I hp (by omega)).1 X.prog X.w X.xe _ ⟨.bl true, H, I, rfl, h⟩⟩
theorem jo_neD (hu : X.A.units + 8 < cLine) : JOp X (compareOp .NotEq) rNe2 := ⟨by
  intro pins s σ H x y v u Q I rx ry h
  rcases h with h | ⟨p, q, b, rfl, rfl, ne, d, h⟩ | ⟨p, xs, rfl, rfl, hp, h⟩
  · exact op_ne pins s σ H x y v u Q I rx ry h
  · cases rx
    cases ry
    exact (d.rc ne I (by omega)).2 X.prog X.w X.xe _ ⟨.bl (!b), H, I, rfl, h⟩
  · cases rx
    cases ry
    exact (same_tup I hp (by omega)).2 X.prog X.w X.xe _ ⟨.bl false, H, I, rfl, h⟩⟩
end
end L2

set_option Elab.async false
set_option linter.all false
set_option maxRecDepth 100000
set_option maxHeartbeats 4000000
/-! list.remove, count, index by the items' own ==; dict.update; list(range(..)); is True -/
namespace L2
open PySem PySem.Spec PyProof.Rows
section
open PySem.SeqAt PySem.MeetsSeq
open PySem.AutoSeq1 (wpAny_loadPart')
end
section
variable {X : Cx}
end

section
variable {X : Cx}
def rNotT : R2 := fun x y H Q => (∃ a b, x = .bl a ∧ y = .bl b ∧ Q (.bl (!(a == b))) H)
theorem jo_notB : JOp X (compareOp .IsNot) rNotT := ⟨by
  intro pins s σ H x y v u Q I rx ry h
  obtain ⟨a, b, rfl, rfl, q⟩ := h
  cases rx
  cases ry
  refine wpAny_isNot_plain (by cases a <;> cases b <;> rfl) (fin_bl I q ?_)
  cases a <;> cases b <;> rfl⟩
end
end L2

set_option Elab.async false
set_option linter.all false
set_option maxRecDepth 100000
set_option maxHeartbeats 4000000
/-! range as a value, list(range(..)); how comprehensions, dicts, lists are met -/
namespace L2
open PySem PySem.Spec PyProof.Rows
theorem vals_ix : ∀ {xs : List V} {us : List Value}, xs.length = us.length → (∀ (k : Nat) x u, xs[k]? = some x → us[k]? = some u → RelV x u) → Vals xs us
  | [], [], _, _ => .nil
  | [], _ :: _, h, _ => by simp at h
  | _ :: _, [], h, _ => by simp at h
  | x :: xs, u :: us, h, f => .cons (f 0 x u rfl rfl) (vals_ix (by simpa using h) fun k a b e1 e2 => f (k + 1) a b (by simpa using e1) (by simpa using e2))
section
variable {X : Cx}
def rRange : List V → Hp → VK → Prop := fun xs H Q => ∃ i j : Int, (xs = [.int j] ∧ i = 0 ∨ xs = [.int i, .int j]) ∧ (-(2 ^ 62) ≤ i ∧ i < 2 ^ 62 ∧ -(2 ^ 62) ≤ j ∧ j < 2 ^ 62) ∧ ∀ p, H p = none → Q (.ref p) (upd H p (.rng i j))
theorem jc_range : JCl X (.type "range") rRange := ⟨by
  intro pins s σ H xs us Q I r h
  obtain ⟨i, j, hx, hb, q⟩ := h
  have lay : ∀ (t u v : Tok) (tk : Nat), EP X pins σ Q (.ref s.heap.objs.size) { s with heap := s.heap.push { cls := .type "range", data := .fields #[.int i t, .int j u, .int 1 v] }, toks := tk } := fun t u v tk =>
    ⟨.ref s.heap.objs.size, upd H s.heap.objs.size (.rng i j), I.laid (fun b o e => Heap.get?_push_of_some _ e) (Nat.le_refl _) ⟨t, u, v, Heap.get?_push_size _ rfl⟩, rfl, q _ (I.hok.fresh (Nat.le_refl _))⟩
  rcases hx with ⟨rfl, rfl⟩ | rfl
  · obtain ⟨u, rfl, ⟨t, rfl⟩⟩ := vals1 r
    exact call_range_1 (lay _ _ _ _)
  · obtain ⟨u, u2, rfl, ⟨t, rfl⟩, ⟨t2, rfl⟩⟩ := vals2 r
    exact call_range_2 (lay _ _ _ _)⟩
def rngL (i : Int) (n : Nat) : List Int := (List.range n).map fun (k : Nat) => i + (k : Int)
def rListRng : List V → Hp → VK → Prop := fun xs H Q => ∃ (p : Addr) (i j : Int), xs = [.ref p] ∧ H p = some (.rng i j) ∧ (-(2 ^ 62) ≤ i ∧ i < 2 ^ 62 ∧ -(2 ^ 62) ≤ j ∧ j < 2 ^ 62) ∧ (j - i).toNat ≤ 2 ^ 20 ∧ ∀ l, H l = none → Q (.ref l) (upd H l (.lst ((rngL i (j - i).toNat).map V.int)))
theorem jc_listRng (hc : X.calm = true) : JCl X (.type "list") rListRng := ⟨by
  intro pins s σ H xs us Q I r h
  obtain ⟨p, i, j, rfl, hp, ⟨b1, b2, b3, b4⟩, hn, q⟩ := h
  obtain ⟨u, rfl, ru⟩ := vals1 r
  cases (show u = Value.ref p from ru)
  obtain ⟨t, t2, t3, e⟩ := I.hok p _ hp
  have hsz : Builtin.Range.rangeSize i j 1 = (((j - i).toNat : Nat) : Int) := by rw [rangeSize_one]; split <;> omega
  refine call_list_range (I.ok.hd hc) e (small_one b1 b2 b3 b4) hsz (by omega) fun h' tk acc c' hk hacc its => ?_
  obtain ⟨hl, hi⟩ := its
  have rel : Vals ((rngL i (j - i).toNat).map V.int) acc.toList := by
    refine vals_ix (by unfold rngL; rw [List.length_map, List.length_map, List.length_range, Array.length_toList, hl]) fun k x u ex eu => ?_
    unfold rngL at ex
    rw [List.map_map, List.getElem?_map] at ex
    have hk : k < (j - i).toNat := by
      have := (List.getElem?_eq_some_iff.mp eu).1
      rw [Array.length_toList, hl] at this
      exact this
    rw [List.getElem?_range hk] at ex
    have ex' := Option.some.inj ex
    obtain ⟨t4, e4⟩ := hi k u (by simpa using eu)
    rw [← ex', e4]
    exact ⟨t4, by simp⟩
  refine ⟨.ref s.heap.objs.size, upd H s.heap.objs.size (.lst ((rngL i (j - i).toNat).map V.int)), I.laid (t' := tk) hk (Nat.le_refl _) ⟨?_, acc.toList, c', rel, by simpa using hacc⟩, rfl, q _ (I.hok.fresh (Nat.le_refl _))⟩
  unfold rngL
  rw [List.length_map, List.length_map, List.length_range]
  exact Nat.le_trans hn (by decide)⟩
end
/-! ### comprehensions -/
section
variable {K : PySem.W.Frag} {l : Addr} {tt : TT} {te : TE} {cv : St} {Q : VK} {H1 : Hp}
theorem comp_range {lo : Int} {n : Nat} (Pv : Nat → List V → Hp → Prop) (h0 : Pv 0 [] (upd H1 l (.lst [])))
    (hs : ∀ i ys H2 (Nx : List V → Hp → Prop), i < n → Pv i ys H2 → H2 l = some (.lst ys) → (∀ ys' H', Pv (i + 1) ys' H' → Nx ys' H') → tt (some (.int (lo + i)) :: cv) H2 fun b H4 => if b = true then
      te (some (.int (lo + i)) :: cv) H4 fun y H5 => H5 l = some (.lst ys) ∧ ys.length < sizeLine ∧ Nx (ys ++ [y]) (upd H5 l (.lst (ys ++ [y]))) else H4 l = some (.lst ys) ∧ Nx ys H4)
    (hd : ∀ ys H2, Pv n ys H2 → H2 l = some (.lst ys) → Q (.ref l) H2) : rComp l (Itr lo n) tt te cv Q H1 := by
  refine ⟨fun i m ys H2 => m = n - i ∧ i ≤ n ∧ Pv i ys H2, ⟨n, by simp, Nat.zero_le _, h0⟩, ?_⟩
  rintro i m ys H2 ⟨rfl, hi, p⟩ hl
  by_cases hlt : i < n
  · refine .inr ⟨hlt, ?_⟩
    rintro v H3 ⟨rfl, rfl⟩
    exact hs i ys H3 (fun ys' H' => ∃ m', m' < n - i ∧ m' = n - (i + 1) ∧ i + 1 ≤ n ∧ Pv (i + 1) ys' H') hlt p hl fun ys' H' p' => ⟨n - (i + 1), by omega, rfl, by omega, p'⟩
  · have e : i = n := by omega
    subst e
    exact .inl ⟨Nat.le_refl _, hd ys H2 p hl⟩
end
/-! ### in the judgements' form -/
section
variable {X : Cx} {scope : Scope} {x y : Str} {cs : List Nat} {ys : List Str} {elt iter c : Expr} {px py pos spos : Pos} {ifs : List Expr} {wi : TI} {tt : TT} {te : TE} {i : Nat}
structure JIf (X : Cx) (ifs : List Expr) (t : TT) : Prop where
  h : PIf X ifs t
def tTrue : TT := fun _ H Q => Q true H
theorem jif_nil : JIf X [] tTrue := ⟨pif_nil⟩
theorem js_comp (hc : X.calm = true) (hN : X.N.Nodup) (hi' : X.N[i]? = some y) (hy : X.env.scope.names.lookup y = some .local)
    (hsw : swapsWith (.ListComp elt [⟨.Name x px, iter, ifs, 0⟩] scope pos) (some (.Name y py)) spos.line X.env = pure true) (S : CompSc X scope x cs ys) (hi : JI X (.Name x px) iter wi)
    (ht : ∀ C cl s0 H0 ex pn, JIf (cmpCx X (x :: ys) scope C cl s0 H0 ex pn) ifs tt) (he : ∀ C cl s0 H0 ex pn, JE (cmpCx X (x :: ys) scope C cl s0 H0 ex pn) elt te) (hs : ∀ x, foldedSetIterable iter X.env x = pure x) :
    JS X (.Assign [.Name y py] (.ListComp elt [⟨.Name x px, iter, ifs, 0⟩] scope pos) spos) (tAsg (tComp cs wi tt te) (gName i)) :=
  ⟨ps_comp hc hN hi' hy hsw S hi.h (fun a b c d e f => (ht a b c d e f).h) (fun a b c d e f => (he a b c d e f).h) hs⟩
/-- name = e, the name a cell -/
theorem js_setc {e : Expr} (hs : swapsWith e (some (.Name y py)) pos.line X.env = pure false) (hN : X.N.Nodup) (hi : X.N[i]? = some y) (hx : X.env.scope.names.lookup y = some .cell) (hf : X.fn y = true) (he : JE X e te) : JS X (.Assign [.Name y py] e pos) (tAsg te (gName i)) :=
  ⟨ps_set hN hi (Or.inr hx) he.h hs (Or.inl hf)⟩
theorem je_cvar (n : Nm x) (hv : X.env.scope.names.lookup x = some .cell) (hN : X.N[i]? = some x) : JE X (.Name x pos) (tVar i) := ⟨pe_var hN (Or.inr (Or.inl hv)) n.db n.cd⟩
end
section
variable {X : Cx} {scope : Scope} {x : Str} {C : Addr} {cl : List (Str × Addr)} {s0 : Shared} {H0 : Hp} {ex : List Addr} {pn : List (Addr × Obj)} {N' : List Str}
theorem lr_glob (h : scope.names.lookup x = some .globalImplicit) : (cmpCx X N' scope C cl s0 H0 ex pn).env.scope.names.lookup x = some .globalImplicit := by
  show (relabel scope X.env).names.lookup x = _
  rw [lookup_relabel, h]
  rfl
theorem lr_cell (h : scope.names.lookup x = some .free) (hk : X.env.scope.kind = .function) (hc : X.env.scope.names.lookup x = some .cell) : (cmpCx X N' scope C cl s0 H0 ex pn).env.scope.names.lookup x = some .cell := by
  show (relabel scope X.env).names.lookup x = _
  rw [lookup_relabel, h]
  have b2 : (X.env.kindOf x == some NameKind.cell) = true := by
    show (X.env.scope.names.lookup x == some NameKind.cell) = true
    rw [hc]
    rfl
  simp [hk, b2]
end
end L2

set_option Elab.async false
set_option linter.all false
set_option maxRecDepth 100000
set_option maxHeartbeats 4000000
/-! order of tuples; a comprehension's side by one check; room in short; how readings are met -/
namespace L2
open PySem PySem.Spec PyProof.Rows
section
variable {X : Cx}
theorem jo_ltT (hu : X.A.units + 1 < cLine) : JOp X (compareOp .Lt) (rLtT X.K) := ⟨op_ltT (by omega)⟩
theorem jo_geT (hu : X.A.units + 1 < cLine) : JOp X (compareOp .GtE) (rGeT X.K) := ⟨op_geT (by omega)⟩
end
theorem hu8_of {A : Around} {k : Nat} (hr : Room k A) : A.units + 8 < cLine := by have := hr.units; omega
/-! ### a comprehension's side -/
def compOk (sc : Scope) (N : List Str) (scope : Scope) (x : Str) (cs : List Nat) (ys : List Str) : Bool :=
  decide (scope.kind = .function) && (scope.names.all fun y => decide (y.2 ≠ .cell)) && (scope.names.all fun y => decide (y.2 ≠ .local) || decide (scope.names.lookup y.1 = some .local)) && decide (scope.names.lookup x = some .local) && decide ((x :: ys).Nodup) &&
  (scope.names.all fun y => decide (y.2 ≠ .free) || decide (sc.names.lookup y.1 = some .cell)) && decide (cs.length = ys.length) && ((cs.zip ys).all fun p => decide (N[p.1]? = some p.2) && decide (scope.names.lookup p.2 = some .free))
theorem compSc_mk {X : Cx} {sc scope : Scope} {N : List Str} {x : Str} {cs : List Nat} {ys : List Str} (e1 : X.env.scope = sc) (e2 : X.N = N) (h : compOk sc N scope x cs ys = true) : CompSc X scope x cs ys := by
  unfold compOk at h
  simp only [Bool.and_eq_true, decide_eq_true_eq, List.all_eq_true, Bool.or_eq_true] at h
  obtain ⟨⟨⟨⟨⟨⟨⟨h1, h2⟩, h3⟩, h4⟩, h5⟩, h6⟩, h7⟩, h8⟩ := h
  refine ⟨h1, h2, fun y hy e => ?_, h4, h5, fun y hy e => ?_, h7, fun i j y a b => ?_⟩
  · rcases h3 y hy with z | z
    · exact absurd e z
    · exact z
  · rw [e1]
    rcases h6 y hy with z | z
    · exact absurd e z
    · exact z
  · rw [e2]
    have hm : (j, y) ∈ cs.zip ys := by
      refine List.mem_of_getElem? (i := i) ?_
      rw [List.getElem?_zip_eq_some]
      exact ⟨a, b⟩
    exact h8 (j, y) hm
/-! ### readings met -/
section
variable {K : PySem.W.Frag} {H : Hp} {p q d : Addr} {Q : VK} {Q1 : Hp → Prop} {v y : V}
def rDGet (x y : V) (H : Hp) (Q : VK) : Prop := ∃ a v, x = .ref a ∧ DGet H a y (some v) ∧ Q v H
theorem tDGet_eq (td ty : TE) : tDGet td ty = fun σ H Q => td σ H fun x H1 => ty σ H1 fun y H2 => rDGet x y H2 Q := rfl
theorem rd_dgetK {kvs : List (Key × V)} {k : Key} (hd : H d = some (.dK kvs)) (l : valV kvs k = some v) (q : Q v H) : rDGet (.ref d) (kV k) H Q := ⟨d, v, rfl, by rw [← l]; exact DGet.k hd, q⟩
def rDPut (v x y : V) (H : Hp) (Q : Hp → Prop) : Prop := ∃ a H4, x = .ref a ∧ DPut H a y v H4 ∧ Q H4
theorem sDPut_eq (td ty tv : TE) : sDPut td ty tv = fun D σ H => tv σ H fun v H1 => td σ H1 fun x H2 => ty σ H2 fun y H3 => rDPut v x y H3 (D.nx σ) := rfl
theorem rd_dputI {kvs : List (Key × V)} {i : Int} (hd : H d = some (.dK kvs)) (hl : kvs.length < sizeLine) (q : Q1 (upd H d (.dK (putK kvs (Sum.inl i) v)))) : rDPut v (.ref d) (.int i) H Q1 := ⟨d, _, rfl, DPut.k (k := Sum.inl i) hd hl, q⟩
theorem rd_dgetI {kvs : List (Key × V)} {i : Int} (hd : H d = some (.dK kvs)) (l : valV kvs (Sum.inl i) = some v) (q : Q v H) : rDGet (.ref d) (.int i) H Q := rd_dgetK (k := Sum.inl i) hd l q
def rDIn (neg : Bool) (y x : V) (H : Hp) (Q : VK) : Prop := ∃ a o, x = .ref a ∧ DGet H a y o ∧ Q (.bl (if neg then !o.isSome else o.isSome)) H
theorem tDIn_eq (ty td : TE) : tDIn ty td = fun σ H Q => ty σ H fun y H1 => td σ H1 fun x H2 => rDIn false y x H2 Q := rfl
theorem tDNotIn_eq (ty td : TE) : tDNotIn ty td = fun σ H Q => ty σ H fun y H1 => td σ H1 fun x H2 => rDIn true y x H2 Q := rfl
theorem rd_dinI {neg : Bool} {kvs : List (Key × V)} {i : Int} (hd : H d = some (.dK kvs)) (q : Q (.bl (if neg then !(valV kvs (Sum.inl i)).isSome else (valV kvs (Sum.inl i)).isSome)) H) : rDIn neg (.int i) (.ref d) H Q := ⟨d, _, rfl, DGet.k (k := Sum.inl i) hd, q⟩
/-- two pairs of ints -/
theorem deq_pair {n : Nat} {a b c e : Int} (ne : p ≠ q) (hp : H p = some (.tup [.int a, .int b])) (hq : H q = some (.tup [.int c, .int e])) : DEq H (n + 1) (.ref p) (.ref q) (decide (a = c ∧ b = e)) := by
  have z := DEq.tup (n := n) ne hp hq (fun j => if j = 0 then decide (a = c) else decide (b = e)) fun j x y ex ey => by
    match j with
    | 0 =>
      cases ex
      cases ey
      exact (show eqV (.int a) (.int c) = decide (a = c) by unfold eqV; exact Bool.beq_eq_decide_eq a c) ▸ DEq.sc rfl rfl
    | 1 =>
      cases ex
      cases ey
      exact (show eqV (.int b) (.int e) = decide (b = e) by unfold eqV; exact Bool.beq_eq_decide_eq b e) ▸ DEq.sc rfl rfl
    | j + 2 => simp at ex
  have e1 : ((List.range (min [V.int a, V.int b].length [V.int c, V.int e].length)).all (fun j => if j = 0 then decide (a = c) else decide (b = e)) && [V.int a, V.int b].length == [V.int c, V.int e].length) = decide (a = c ∧ b = e) := by
    simp [List.range_succ, Bool.decide_and]
  rw [e1] at z
  exact z
theorem rd_eqP {a b c e : Int} (hp : H p = some (.tup [.int a, .int b])) (hq : H q = some (.tup [.int c, .int e])) (h : Q (.bl (decide (a = c ∧ b = e))) H) : rEq2 (.ref p) (.ref q) H Q := by
  by_cases ne : p = q
  · subst ne
    rw [hp] at hq
    cases hq
    exact .inr (.inr ⟨p, _, rfl, rfl, hp, by simpa using h⟩)
  · exact .inr (.inl ⟨p, q, _, rfl, rfl, ne, deq_pair ne hp hq, h⟩)
theorem rd_ltP {a b c e : Int} (hp : H p = some (.tup [.int a, .int b])) (hq : H q = some (.tup [.int c, .int e])) (h : Q (.bl (decide (a < c ∨ a = c ∧ b < e))) H) : rLtT K (.ref p) (.ref q) H Q := by
  refine ⟨p, q, [a, b], [c, e], rfl, rfl, SqT.of hp, SqT.of hq, ?_⟩
  have : HT.lexLt [a, b] [c, e] = decide (a < c ∨ a = c ∧ b < e) := by
    unfold HT.lexLt HT.lexLt HT.lexLt
    by_cases h1 : a = c <;> by_cases h2 : b = e <;> simp [h1, h2] <;> omega
  rw [this]
  exact h
theorem rd_geP {a b c e : Int} (hp : H p = some (.tup [.int a, .int b])) (hq : H q = some (.tup [.int c, .int e])) (h : Q (.bl (decide (c < a ∨ a = c ∧ e ≤ b))) H) : rGeT K (.ref p) (.ref q) H Q := by
  refine ⟨p, q, [a, b], [c, e], rfl, rfl, SqT.of hp, SqT.of hq, ?_⟩
  have : HT.lexGe [a, b] [c, e] = decide (c < a ∨ a = c ∧ e ≤ b) := by
    unfold HT.lexGe HT.lexGe HT.lexGe
    by_cases h1 : a = c <;> by_cases h2 : b = e <;> simp [h1, h2] <;> omega
  rw [this]
  exact h
end

section
variable {H : Hp} {Q : VK}
theorem rEq_int {i j : Int} : rEq (.int i) (.int j) H Q = Q (.bl (decide (i = j))) H := by unfold rEq scal; simp
theorem rNe_int {i j : Int} : rNe (.int i) (.int j) H Q = Q (.bl (!decide (i = j))) H := by unfold rNe scal; simp
theorem rNe_bl {i j : Bool} : rNe (.bl i) (.bl j) H Q = Q (.bl (!decide (i = j))) H := by unfold rNe scal; simp
theorem rEq_str {i j : Str} : rEq (.str i) (.str j) H Q = Q (.bl (decide (i = j))) H := by unfold rEq scal; simp
theorem rEq_noni {j : Int} : rEq .non (.int j) H Q = Q (.bl false) H := by unfold rEq scal; simp
theorem rNe_noni {j : Int} : rNe .non (.int j) H Q = Q (.bl true) H := by unfold rNe scal; simp
end

theorem ty_list {K : PySem.W.Frag} {H : Hp} {d : Addr} {xs : List V} (h : H d = some (.lst xs)) : tyV K "list" (.ref d) H := .inl ⟨rfl, _, SqL.of h⟩
end L2

set_option Elab.async false
set_option linter.all false
set_option maxRecDepth 100000
set_option maxHeartbeats 4000000
/-! besides: what a call that may raise gives, into a field, or beside None; op=; d.pop(k); len(d); sorted(xs, reverse=True) -/
namespace L2
open PySem PySem.Spec PyProof.Rows
section
variable {X : Cx} {m : Bool} {o value a e : Expr} {f x : Str} {pos pos' tpos apos cpos p : Pos} {ta tv te td ty : TE} {tx : TEx} {K : PySem.W.Frag}
def xFld (K : PySem.W.Frag) (ta : TE) (tv : TEx) (f : Str) : TSx := fun D DX σ H => tv σ H (fun y H1 => ta σ H1 fun x H2 => rPutF K f y x H2 (D.nx σ)) (DX σ)
theorem jsx_fld (n : NoComp value) (ha : JE X.nox o ta) (hv : JEx X value tx) : JSx X m (.Assign [.Attribute o f pos'] value pos) (xFld X.K ta tx f) := ⟨by
  intro pins s σ H D DX I h
  refine plainObj_wpAny_Assign_Attribute (wpAny_mono (hv.h pins s σ H _ _ I h) (fun u s1 ⟨y, H1, I1, ry, q⟩ => wpAny_mono (ha.h pins s1 σ H1 _ I1 q) (fun ov s2 ⟨x, H2, I2, rx, a, C, dx, fs, ex, ea, c, n, l, q2⟩ => ?_) fun _ _ z => False.elim z) fun e s1 ⟨H1, s2, I1, c⟩ => .inl ⟨σ, H1, s2, I1, c⟩) (n _ _ _)
  subst ex
  obtain rfl : ov = Value.ref a := rx
  exact setattr_ok (X := X.nox) I2 ea c n l ry fun s3 I3 => ⟨σ, _, I3, q2⟩⟩
def xNotN (te : TEx) : TEx := fun σ H Q E => te σ H (fun x H1 => Q (.bl (!decide (x = .non))) H1) E
theorem jex_notN {j} (ha : JEx X a tx) : JEx X (.Compare a [.IsNot] [.Constant .none j pos'] pos) (xNotN tx) := ⟨by
  intro pins s σ H Q E I h
  refine wpAny_Compare1 (wpAny_mono (ha.h pins s σ H _ _ I h) (fun v s1 ⟨x, H1, I1, r1, q1⟩ => ?_) fun _ _ z => z) (nobehind _ (by decide) (by decide))
  exact Constant_none (isnot_none_gen ⟨.bl _, H1, I1, by rw [r1.none_iff]; rfl, q1⟩)⟩
theorem rEq_inon {i : Int} {H : Hp} {Q : VK} : rEq (.int i) .non H Q = Q (.bl false) H := by unfold rEq scal; simp
theorem rNe_inon {i : Int} {H : Hp} {Q : VK} : rNe (.int i) .non H Q = Q (.bl true) H := by unfold rNe scal; simp
/-! ### op= -/
theorem js_aug {i : Nat} {op : Operator} {ti : TIp} (hN : X.N.Nodup) (hi : X.N[i]? = some x) (hx : X.env.scope.names.lookup x = some .local) (ho : PIp X op ti) (he : JE X e te) : JS X (.AugAssign (.Name x pos') op e pos) (tAug i te ti) := ⟨ps_aug hN hi (Or.inl hx) he.h ho (Or.inr hx)⟩
theorem js_fldaug {op : Operator} {rd : V → V → Hp → VK → Prop} (hop : InOp X op rd) (ha : JE X o ta) (hv : JE X value tv) : JS X (.AugAssign (.Attribute o f tpos) op value pos) (sFldAug X.K ta tv rd f) := ⟨ps_fldaug ha.h hv.h hop⟩
def rFAug (K : PySem.W.Frag) (f : Str) (x : V) (H1 : Hp) (tv : Hp → VK → Prop) (rd : V → V → Hp → VK → Prop) (Q : Hp → Prop) : Prop := ∃ a C dx fs v, x = .ref a ∧ H1 a = some (.ins C dx fs) ∧ Cls K C ∧ NoAttr K C f ∧ fs.lookup f = some v ∧
  tv H1 fun y H2 => rd v y H2 fun z H3 => ∃ dx' fs', H3 a = some (.ins C dx' fs') ∧ fs'.length < 1000 ∧ Q (upd H3 a (.ins C dx' (putF f z fs')))
theorem sFldAug_eq (K : PySem.W.Frag) (ta tv : TE) (rd : V → V → Hp → VK → Prop) (f : Str) : sFldAug K ta tv rd f = fun D σ H => ta σ H fun x H1 => rFAug K f x H1 (tv σ) rd (D.nx σ) := rfl
theorem rd_faug {H : Hp} {p C dx : Addr} {fs : List (Str × V)} {i j : Int} {Q1 : Hp → Prop} (hp : H p = some (.ins C dx fs)) (c : Cls K C) (n : NoAttr K C f) (l : fs.lookup f = some (.int i)) (hl : fs.length < 1000) (q : Q1 (upd H p (.ins C dx (putF f (.int (i + j)) fs)))) :
    rFAug K f (.ref p) H (fun H Q => Q (.int j) H) rAdd Q1 := ⟨p, C, dx, fs, .int i, rfl, hp, c, n, l, i, j, rfl, rfl, dx, fs, hp, hl, q⟩
/-! ### dicts -/
theorem je_dpop (ab : Base o) (hl : (apos.endLine == cpos.line) = true) (s : Star1 e) (ho : JE X o td) (he : JE X e ty) : JE X (.Call (.Attribute o "pop" apos) [e] [] cpos) (tDPop1 td ty) :=
  ⟨pe_dpop1 ho.h he.h ⟨ab _ _ _, by
    have e1 : (backTo cpos (starEach [e] X.env)).all (fun x => !x.1) = true := all_not_of (ns_cons s ns_nil cpos X.env)
    rw [e1]
    rfl, hl, by rw [s]; rfl⟩⟩
theorem rEq_bl {i j : Bool} {H : Hp} {Q : VK} : rEq (.bl i) (.bl j) H Q = Q (.bl (decide (i = j))) H := by unfold rEq scal; simp
def rLenD (xs : List V) (H : Hp) (Q : VK) : Prop := ∃ a kvs, xs = [V.ref a] ∧ H a = some (.dK kvs) ∧ Q (.int kvs.length) H
theorem jc_lenD : JCl X (.builtin "len") rLenD := ⟨call_lenD⟩
theorem rd_lenD {H : Hp} {d : Addr} {kvs : List (Key × V)} {Q : VK} (hd : H d = some (.dK kvs)) (q : Q (.int kvs.length) H) : rLenD [.ref d] H Q := ⟨d, kvs, rfl, hd, q⟩
/-! ### sorted, the greatest first -/
def rSortR (K : PySem.W.Frag) (x : V) (H : Hp) (Q : VK) : Prop := ∃ (p : Addr) (ns : List Int), x = .ref p ∧ SqL K H p (ns.map V.int) ∧ ns.length < 64 ∧ ∀ (ms : List Int) (l : Addr), ms.Perm ns → ms.Pairwise (· ≥ ·) → H l = none → Q (.ref l) (upd H l (.lst (ms.map V.int)))
def tSortR (K : PySem.W.Frag) (te : TE) : TE := fun σ H Q => te σ H fun x H1 => rSortR K x H1 Q
def oneV (Q : VK) (xs : List V) (H : Hp) : Prop :=
  match xs with
  | [x] => Q x H
  | _ => False
theorem oneV_of {Q : VK} {xs : List V} {H : Hp} (h : oneV Q xs H) : ∃ x, xs = [x] ∧ Q x H := by
  match xs, h with
  | [x], h => exact ⟨x, rfl, h⟩
theorem je_sortR {j : Nat} {kp : Pos} (n : Nm "sorted") (hg : X.env.scope.names.lookup ("sorted" : Str) = some .globalImplicit) (hm : X.mg "sorted" = none) (hv : bootBuiltins "sorted" = some (.builtin "sorted")) (s : Star1 e) (he : JE X e te) :
    JE X (.Call (.Name "sorted" p) [e] [⟨some "reverse", .Constant (.bool true) j pos', kp⟩] pos) (tSortR X.K te) := ⟨by
  intro pins st σ H Q I h
  have h' : tCons te tNil σ H (oneV fun x H1 => rSortR X.K x H1 Q) := h
  refine wpAny_Call_Name_kw (ld_blt I hg hm hv ?_ n.nn n.db)
  refine callWith_kw (thn ((pac s he.h pa_nil) pos pins st σ H _ I h') fun us s1 ⟨vs, H1, I1, r1, q1⟩ => ?_) (by rw [s]; rfl) (ns_cons s ns_nil pos X.env) rfl rfl
  obtain ⟨v, rfl, q1⟩ := oneV_of q1
  obtain ⟨u, rfl, ru⟩ := vals1 r1
  refine kws_cons ((pe_bl (X := X) (b := true)) pins s1 σ H1 (fun w H2 => w = .bl true ∧ H2 = H1) I1 ⟨rfl, rfl⟩ |> fun z => thn z fun w s2 ⟨y, H2, I2, ry, ey, eH⟩ => ?_)
  subst ey
  subst eH
  cases ry
  refine kws_nil ?_
  obtain ⟨q, ns, rfl, hp, hl, q⟩ := q1
  cases (show u = Value.ref _ from ru)
  obtain ⟨its, rv, pl, hz⟩ := I2.list hp
  have hI := intsAre_of rv
  have hlen : its.length = ns.length := by rw [← rv.length, List.length_map]
  refine sorted_ints_rev (b := true) (pl.isList) hI (by omega) fun out ns' a1 a2 a3 => ?_
  obtain ⟨e, he⟩ := sortedAll_at s2.heap its out
  have hn : H2 (s2.heap.objs.size + 1) = none := I2.hok.fresh (Nat.le_succ _)
  refine ⟨.ref (s2.heap.objs.size + 1), upd H2 (s2.heap.objs.size + 1) (.lst (ns'.map V.int)), I2.laid (t' := s2.toks) (fun b o q => sortedAll_old q) (Nat.le_succ _) ?_, rfl, q ns' _ a2 a3 hn⟩
  have hz' := sizeLine_eq
  exact ⟨by rw [List.length_map, a2.length_eq]; omega, out.toList, e, vals_ints a1, by simpa [seqObj] using he⟩⟩
end
end L2

set_option Elab.async false
set_option linter.all false
set_option maxRecDepth 100000
set_option maxHeartbeats 4000000
/-! the places of the defs, and what the top has written -/
namespace K11
open PySem L2
def top (i : Nat) : Stmt := PySem.Challenge.pw_leasehold_k11_alone.main.body.getD i (.Pass ⟨0, 0, 0, 0⟩)
abbrev s_gone_on : Stmt := top 7
theorem sc_gone_on : FnScope ["latest", "clock"] ["latest", "clock"] (defScope s_gone_on) := ⟨rfl, rfl, rfl, by decide +kernel, rfl, by decide +kernel, by decide +kernel⟩
abbrev s_Keeper_init : Stmt := inClass (top 9) 0
theorem sc_Keeper_init : FnScope ["self", "terms", "clock"] ["self", "terms", "clock"] (defScope s_Keeper_init) := ⟨rfl, rfl, rfl, by decide +kernel, rfl, by decide +kernel, by decide +kernel⟩
abbrev s_Keeper_asked : Stmt := inClass (top 9) 1
theorem sc_Keeper_asked : FnScope ["self", "clock", "name", "number"] ["self", "clock", "name", "number"] (defScope s_Keeper_asked) := ⟨rfl, rfl, rfl, by decide +kernel, rfl, by decide +kernel, by decide +kernel⟩
abbrev s_Keeper_freed : Stmt := inClass (top 9) 2
theorem sc_Keeper_freed : FnScope ["self", "clock", "name", "number"] ["self", "clock", "name", "number"] (defScope s_Keeper_freed) := ⟨rfl, rfl, rfl, by decide +kernel, rfl, by decide +kernel, by decide +kernel⟩
abbrev s_Keeper_let_to : Stmt := inClass (top 9) 3
theorem sc_Keeper_let_to : FnScope ["self", "clock"] ["self", "clock"] (defScope s_Keeper_let_to) := ⟨rfl, rfl, rfl, by decide +kernel, rfl, by decide +kernel, by decide +kernel⟩
abbrev s_Holder_init : Stmt := inClass (top 11) 0
theorem sc_Holder_init : FnScope ["self", "terms", "name", "life", "clock"] ["self", "terms", "name", "life", "clock"] (defScope s_Holder_init) := ⟨rfl, rfl, rfl, by decide +kernel, rfl, by decide +kernel, by decide +kernel⟩
abbrev s_Holder_ask : Stmt := inClass (top 11) 1
theorem sc_Holder_ask : FnScope ["self", "clock", "number"] ["self", "clock"] (defScope s_Holder_ask) := ⟨rfl, rfl, rfl, by decide +kernel, rfl, by decide +kernel, by decide +kernel⟩
abbrev s_Holder_forget_over : Stmt := inClass (top 11) 2
theorem sc_Holder_forget_over : FnScope ["self", "clock", "oldest"] ["self", "clock"] (defScope s_Holder_forget_over) := ⟨rfl, rfl, rfl, by decide +kernel, rfl, by decide +kernel, by decide +kernel⟩
abbrev s_Holder_hear : Stmt := inClass (top 11) 3
theorem sc_Holder_hear : FnScope ["self", "clock", "keeper", "number"] ["self", "clock", "keeper", "number"] (defScope s_Holder_hear) := ⟨rfl, rfl, rfl, by decide +kernel, rfl, by decide +kernel, by decide +kernel⟩
abbrev s_Holder_holds : Stmt := inClass (top 11) 4
theorem sc_Holder_holds : FnScope ["self", "clock"] ["self", "clock"] (defScope s_Holder_holds) := ⟨rfl, rfl, rfl, by decide +kernel, rfl, by decide +kernel, by decide +kernel⟩
abbrev s_Holder_until : Stmt := inClass (top 11) 5
theorem sc_Holder_until : FnScope ["self", "clock", "end"] ["self", "clock"] (defScope s_Holder_until) := ⟨rfl, rfl, rfl, by decide +kernel, rfl, by decide +kernel, by decide +kernel⟩
abbrev s_Holder_free : Stmt := inClass (top 11) 6
theorem sc_Holder_free : FnScope ["self", "clock", "latest"] ["self", "clock"] (defScope s_Holder_free) := ⟨rfl, rfl, rfl, by decide +kernel, rfl, by decide +kernel, by decide +kernel⟩
abbrev s_refuse_bad_steps : Stmt := top 16
theorem sc_refuse_bad_steps : FnScope ["low", "high"] ["low", "high"] (defScope s_refuse_bad_steps) := ⟨rfl, rfl, rfl, by decide +kernel, rfl, by decide +kernel, by decide +kernel⟩
abbrev s_refuse_bad_length : Stmt := top 17
theorem sc_refuse_bad_length : FnScope ["length"] ["length"] (defScope s_refuse_bad_length) := ⟨rfl, rfl, rfl, by decide +kernel, rfl, by decide +kernel, by decide +kernel⟩
abbrev s_refuse_bad_keepers : Stmt := top 18
theorem sc_refuse_bad_keepers : FnScope ["keepers"] ["keepers"] (defScope s_refuse_bad_keepers) := ⟨rfl, rfl, rfl, by decide +kernel, rfl, by decide +kernel, by decide +kernel⟩
abbrev s_Terms_init : Stmt := inClass (top 19) 0
theorem sc_Terms_init : FnScope ["self", "low", "high", "length", "keepers"] ["self", "low", "high", "length", "keepers"] (defScope s_Terms_init) := ⟨rfl, rfl, rfl, by decide +kernel, rfl, by decide +kernel, by decide +kernel⟩
abbrev s_Terms_ticks : Stmt := inClass (top 19) 1
theorem sc_Terms_ticks : FnScope ["self"] ["self"] (defScope s_Terms_ticks) := ⟨rfl, rfl, rfl, by decide +kernel, rfl, by decide +kernel, by decide +kernel⟩
abbrev s_Terms_wait : Stmt := inClass (top 19) 2
theorem sc_Terms_wait : FnScope ["self"] ["self"] (defScope s_Terms_wait) := ⟨rfl, rfl, rfl, by decide +kernel, rfl, by decide +kernel, by decide +kernel⟩
abbrev s_Terms_most : Stmt := inClass (top 19) 3
theorem sc_Terms_most : FnScope ["self"] ["self"] (defScope s_Terms_most) := ⟨rfl, rfl, rfl, by decide +kernel, rfl, by decide +kernel, by decide +kernel⟩
abbrev s_law_cell : Stmt := top 21
theorem sc_law_cell : FnScope ["_law_script", "_law_k"] ["_law_script", "_law_k"] (defScope s_law_cell) := ⟨rfl, rfl, rfl, by decide +kernel, rfl, by decide +kernel, by decide +kernel⟩
abbrev s_law_mix : Stmt := top 22
theorem sc_law_mix : FnScope ["_law_script", "_law_k", "_law_number"] ["_law_script", "_law_k"] (defScope s_law_mix) := ⟨rfl, rfl, rfl, by decide +kernel, rfl, by decide +kernel, by decide +kernel⟩
abbrev s_law_terms : Stmt := top 23
theorem sc_law_terms : FnScope ["_law_script", "_law_k", "_law_low", "_law_high", "_law_length"] ["_law_script", "_law_k"] (defScope s_law_terms) := ⟨rfl, rfl, rfl, by decide +kernel, rfl, by decide +kernel, by decide +kernel⟩
abbrev s_law_wait : Stmt := top 24
theorem sc_law_wait : FnScope ["_law_terms_here", "_law_ticks"] ["_law_terms_here"] (defScope s_law_wait) := ⟨rfl, rfl, rfl, by decide +kernel, rfl, by decide +kernel, by decide +kernel⟩
abbrev s_law_gets : Stmt := top 25
theorem sc_law_gets : FnScope ["_law_keepers", "_law_clock", "_law_holder", "_law_name", "_law_reading", "_law_number", "_law_yes", "_law_k"] ["_law_keepers", "_law_clock", "_law_holder", "_law_name", "_law_reading"] (defScope s_law_gets) := ⟨rfl, rfl, rfl, by decide +kernel, rfl, by decide +kernel, by decide +kernel⟩
abbrev s_law : Stmt := top 26
theorem sc_law : FnScope ["_law_script", "_law_terms_here", "_law_made", "_law_wait_here", "_law_keepers", "_law_one", "_law_other", "_law_before", "_law_clock", "_law_number", "_law_first", "_law_asked", "_law_k", "_law_yes", "_law_keeper"] ["_law_script"] (defScope s_law) := ⟨rfl, rfl, rfl, by decide +kernel, rfl, by decide +kernel, by decide +kernel⟩
theorem lo_gone_on_latest : (defScope s_gone_on).names.lookup ("latest" : Str) = some .local := by decide +kernel
theorem lo_gone_on_clock : (defScope s_gone_on).names.lookup ("clock" : Str) = some .local := by decide +kernel
theorem lo_gone_on_Back : (defScope s_gone_on).names.lookup ("Back" : Str) = some .globalImplicit := by decide +kernel
theorem lo_Keeper_init_self : (defScope s_Keeper_init).names.lookup ("self" : Str) = some .local := by decide +kernel
theorem lo_Keeper_init_terms : (defScope s_Keeper_init).names.lookup ("terms" : Str) = some .local := by decide +kernel
theorem lo_Keeper_init_clock : (defScope s_Keeper_init).names.lookup ("clock" : Str) = some .local := by decide +kernel
theorem lo_Keeper_asked_self : (defScope s_Keeper_asked).names.lookup ("self" : Str) = some .local := by decide +kernel
theorem lo_Keeper_asked_clock : (defScope s_Keeper_asked).names.lookup ("clock" : Str) = some .local := by decide +kernel
theorem lo_Keeper_asked_name : (defScope s_Keeper_asked).names.lookup ("name" : Str) = some .local := by decide +kernel
theorem lo_Keeper_asked_number : (defScope s_Keeper_asked).names.lookup ("number" : Str) = some .local := by decide +kernel
theorem lo_Keeper_asked_gone_on : (defScope s_Keeper_asked).names.lookup ("gone_on" : Str) = some .globalImplicit := by decide +kernel
theorem lo_Keeper_freed_self : (defScope s_Keeper_freed).names.lookup ("self" : Str) = some .local := by decide +kernel
theorem lo_Keeper_freed_clock : (defScope s_Keeper_freed).names.lookup ("clock" : Str) = some .local := by decide +kernel
theorem lo_Keeper_freed_name : (defScope s_Keeper_freed).names.lookup ("name" : Str) = some .local := by decide +kernel
theorem lo_Keeper_freed_number : (defScope s_Keeper_freed).names.lookup ("number" : Str) = some .local := by decide +kernel
theorem lo_Keeper_freed_gone_on : (defScope s_Keeper_freed).names.lookup ("gone_on" : Str) = some .globalImplicit := by decide +kernel
theorem lo_Keeper_let_to_self : (defScope s_Keeper_let_to).names.lookup ("self" : Str) = some .local := by decide +kernel
theorem lo_Keeper_let_to_clock : (defScope s_Keeper_let_to).names.lookup ("clock" : Str) = some .local := by decide +kernel
theorem lo_Keeper_let_to_gone_on : (defScope s_Keeper_let_to).names.lookup ("gone_on" : Str) = some .globalImplicit := by decide +kernel
theorem lo_Holder_init_self : (defScope s_Holder_init).names.lookup ("self" : Str) = some .local := by decide +kernel
theorem lo_Holder_init_terms : (defScope s_Holder_init).names.lookup ("terms" : Str) = some .local := by decide +kernel
theorem lo_Holder_init_name : (defScope s_Holder_init).names.lookup ("name" : Str) = some .local := by decide +kernel
theorem lo_Holder_init_life : (defScope s_Holder_init).names.lookup ("life" : Str) = some .local := by decide +kernel
theorem lo_Holder_init_clock : (defScope s_Holder_init).names.lookup ("clock" : Str) = some .local := by decide +kernel
theorem lo_Holder_ask_self : (defScope s_Holder_ask).names.lookup ("self" : Str) = some .local := by decide +kernel
theorem lo_Holder_ask_clock : (defScope s_Holder_ask).names.lookup ("clock" : Str) = some .local := by decide +kernel
theorem lo_Holder_ask_number : (defScope s_Holder_ask).names.lookup ("number" : Str) = some .local := by decide +kernel
theorem lo_Holder_ask_gone_on : (defScope s_Holder_ask).names.lookup ("gone_on" : Str) = some .globalImplicit := by decide +kernel
theorem lo_Holder_forget_over_self : (defScope s_Holder_forget_over).names.lookup ("self" : Str) = some .local := by decide +kernel
theorem lo_Holder_forget_over_clock : (defScope s_Holder_forget_over).names.lookup ("clock" : Str) = some .local := by decide +kernel
theorem lo_Holder_forget_over_oldest : (defScope s_Holder_forget_over).names.lookup ("oldest" : Str) = some .local := by decide +kernel
theorem lo_Holder_forget_over_len : (defScope s_Holder_forget_over).names.lookup ("len" : Str) = some .globalImplicit := by decide +kernel
theorem lo_Holder_hear_self : (defScope s_Holder_hear).names.lookup ("self" : Str) = some .local := by decide +kernel
theorem lo_Holder_hear_clock : (defScope s_Holder_hear).names.lookup ("clock" : Str) = some .local := by decide +kernel
theorem lo_Holder_hear_keeper : (defScope s_Holder_hear).names.lookup ("keeper" : Str) = some .local := by decide +kernel
theorem lo_Holder_hear_number : (defScope s_Holder_hear).names.lookup ("number" : Str) = some .local := by decide +kernel
theorem lo_Holder_hear_gone_on : (defScope s_Holder_hear).names.lookup ("gone_on" : Str) = some .globalImplicit := by decide +kernel
theorem lo_Holder_hear_NoKeeper : (defScope s_Holder_hear).names.lookup ("NoKeeper" : Str) = some .globalImplicit := by decide +kernel
theorem lo_Holder_hear_max : (defScope s_Holder_hear).names.lookup ("max" : Str) = some .globalImplicit := by decide +kernel
theorem lo_Holder_hear_len : (defScope s_Holder_hear).names.lookup ("len" : Str) = some .globalImplicit := by decide +kernel
theorem lo_Holder_holds_self : (defScope s_Holder_holds).names.lookup ("self" : Str) = some .local := by decide +kernel
theorem lo_Holder_holds_clock : (defScope s_Holder_holds).names.lookup ("clock" : Str) = some .local := by decide +kernel
theorem lo_Holder_until_self : (defScope s_Holder_until).names.lookup ("self" : Str) = some .local := by decide +kernel
theorem lo_Holder_until_clock : (defScope s_Holder_until).names.lookup ("clock" : Str) = some .local := by decide +kernel
theorem lo_Holder_until_end : (defScope s_Holder_until).names.lookup ("end" : Str) = some .local := by decide +kernel
theorem lo_Holder_until_gone_on : (defScope s_Holder_until).names.lookup ("gone_on" : Str) = some .globalImplicit := by decide +kernel
theorem lo_Holder_until_sorted : (defScope s_Holder_until).names.lookup ("sorted" : Str) = some .globalImplicit := by decide +kernel
theorem lo_Holder_free_self : (defScope s_Holder_free).names.lookup ("self" : Str) = some .local := by decide +kernel
theorem lo_Holder_free_clock : (defScope s_Holder_free).names.lookup ("clock" : Str) = some .local := by decide +kernel
theorem lo_Holder_free_latest : (defScope s_Holder_free).names.lookup ("latest" : Str) = some .local := by decide +kernel
theorem lo_Holder_free_gone_on : (defScope s_Holder_free).names.lookup ("gone_on" : Str) = some .globalImplicit := by decide +kernel
theorem lo_Holder_free_NotAsked : (defScope s_Holder_free).names.lookup ("NotAsked" : Str) = some .globalImplicit := by decide +kernel
theorem lo_Holder_free_len : (defScope s_Holder_free).names.lookup ("len" : Str) = some .globalImplicit := by decide +kernel
theorem lo_refuse_bad_steps_low : (defScope s_refuse_bad_steps).names.lookup ("low" : Str) = some .local := by decide +kernel
theorem lo_refuse_bad_steps_high : (defScope s_refuse_bad_steps).names.lookup ("high" : Str) = some .local := by decide +kernel
theorem lo_refuse_bad_steps_MOST_STEP : (defScope s_refuse_bad_steps).names.lookup ("MOST_STEP" : Str) = some .globalImplicit := by decide +kernel
theorem lo_refuse_bad_steps_BadTerms : (defScope s_refuse_bad_steps).names.lookup ("BadTerms" : Str) = some .globalImplicit := by decide +kernel
theorem lo_refuse_bad_length_length : (defScope s_refuse_bad_length).names.lookup ("length" : Str) = some .local := by decide +kernel
theorem lo_refuse_bad_length_MOST_LENGTH : (defScope s_refuse_bad_length).names.lookup ("MOST_LENGTH" : Str) = some .globalImplicit := by decide +kernel
theorem lo_refuse_bad_length_BadTerms : (defScope s_refuse_bad_length).names.lookup ("BadTerms" : Str) = some .globalImplicit := by decide +kernel
theorem lo_refuse_bad_keepers_keepers : (defScope s_refuse_bad_keepers).names.lookup ("keepers" : Str) = some .local := by decide +kernel
theorem lo_refuse_bad_keepers_MOST_KEEPERS : (defScope s_refuse_bad_keepers).names.lookup ("MOST_KEEPERS" : Str) = some .globalImplicit := by decide +kernel
theorem lo_refuse_bad_keepers_BadTerms : (defScope s_refuse_bad_keepers).names.lookup ("BadTerms" : Str) = some .globalImplicit := by decide +kernel
theorem lo_Terms_init_self : (defScope s_Terms_init).names.lookup ("self" : Str) = some .local := by decide +kernel
theorem lo_Terms_init_low : (defScope s_Terms_init).names.lookup ("low" : Str) = some .local := by decide +kernel
theorem lo_Terms_init_high : (defScope s_Terms_init).names.lookup ("high" : Str) = some .local := by decide +kernel
theorem lo_Terms_init_length : (defScope s_Terms_init).names.lookup ("length" : Str) = some .local := by decide +kernel
theorem lo_Terms_init_keepers : (defScope s_Terms_init).names.lookup ("keepers" : Str) = some .local := by decide +kernel
theorem lo_Terms_init_refuse_bad_steps : (defScope s_Terms_init).names.lookup ("refuse_bad_steps" : Str) = some .globalImplicit := by decide +kernel
theorem lo_Terms_init_refuse_bad_length : (defScope s_Terms_init).names.lookup ("refuse_bad_length" : Str) = some .globalImplicit := by decide +kernel
theorem lo_Terms_init_refuse_bad_keepers : (defScope s_Terms_init).names.lookup ("refuse_bad_keepers" : Str) = some .globalImplicit := by decide +kernel
theorem lo_Terms_ticks_self : (defScope s_Terms_ticks).names.lookup ("self" : Str) = some .local := by decide +kernel
theorem lo_Terms_wait_self : (defScope s_Terms_wait).names.lookup ("self" : Str) = some .local := by decide +kernel
theorem lo_Terms_most_self : (defScope s_Terms_most).names.lookup ("self" : Str) = some .local := by decide +kernel
theorem lo_law_cell__law_script : (defScope s_law_cell).names.lookup ("_law_script" : Str) = some .local := by decide +kernel
theorem lo_law_cell__law_k : (defScope s_law_cell).names.lookup ("_law_k" : Str) = some .local := by decide +kernel
theorem lo_law_cell_len : (defScope s_law_cell).names.lookup ("len" : Str) = some .globalImplicit := by decide +kernel
theorem lo_law_mix__law_script : (defScope s_law_mix).names.lookup ("_law_script" : Str) = some .local := by decide +kernel
theorem lo_law_mix__law_k : (defScope s_law_mix).names.lookup ("_law_k" : Str) = some .local := by decide +kernel
theorem lo_law_mix__law_number : (defScope s_law_mix).names.lookup ("_law_number" : Str) = some .local := by decide +kernel
theorem lo_law_mix__law_cell : (defScope s_law_mix).names.lookup ("_law_cell" : Str) = some .globalImplicit := by decide +kernel
theorem lo_law_terms__law_script : (defScope s_law_terms).names.lookup ("_law_script" : Str) = some .local := by decide +kernel
theorem lo_law_terms__law_k : (defScope s_law_terms).names.lookup ("_law_k" : Str) = some .local := by decide +kernel
theorem lo_law_terms__law_low : (defScope s_law_terms).names.lookup ("_law_low" : Str) = some .local := by decide +kernel
theorem lo_law_terms__law_high : (defScope s_law_terms).names.lookup ("_law_high" : Str) = some .local := by decide +kernel
theorem lo_law_terms__law_length : (defScope s_law_terms).names.lookup ("_law_length" : Str) = some .local := by decide +kernel
theorem lo_law_terms__law_mix : (defScope s_law_terms).names.lookup ("_law_mix" : Str) = some .globalImplicit := by decide +kernel
theorem lo_law_wait__law_terms_here : (defScope s_law_wait).names.lookup ("_law_terms_here" : Str) = some .local := by decide +kernel
theorem lo_law_wait__law_ticks : (defScope s_law_wait).names.lookup ("_law_ticks" : Str) = some .local := by decide +kernel
theorem lo_law_gets__law_keepers : (defScope s_law_gets).names.lookup ("_law_keepers" : Str) = some .local := by decide +kernel
theorem lo_law_gets__law_clock : (defScope s_law_gets).names.lookup ("_law_clock" : Str) = some .local := by decide +kernel
theorem lo_law_gets__law_holder : (defScope s_law_gets).names.lookup ("_law_holder" : Str) = some .local := by decide +kernel
theorem lo_law_gets__law_name : (defScope s_law_gets).names.lookup ("_law_name" : Str) = some .local := by decide +kernel
theorem lo_law_gets__law_reading : (defScope s_law_gets).names.lookup ("_law_reading" : Str) = some .local := by decide +kernel
theorem lo_law_gets__law_number : (defScope s_law_gets).names.lookup ("_law_number" : Str) = some .local := by decide +kernel
theorem lo_law_gets__law_yes : (defScope s_law_gets).names.lookup ("_law_yes" : Str) = some .local := by decide +kernel
theorem lo_law_gets__law_k : (defScope s_law_gets).names.lookup ("_law_k" : Str) = some .local := by decide +kernel
theorem lo_law_gets_range : (defScope s_law_gets).names.lookup ("range" : Str) = some .globalImplicit := by decide +kernel
theorem lo_law_gets_len : (defScope s_law_gets).names.lookup ("len" : Str) = some .globalImplicit := by decide +kernel
theorem lo_law__law_script : (defScope s_law).names.lookup ("_law_script" : Str) = some .local := by decide +kernel
theorem lo_law__law_terms_here : (defScope s_law).names.lookup ("_law_terms_here" : Str) = some .local := by decide +kernel
theorem lo_law__law_made : (defScope s_law).names.lookup ("_law_made" : Str) = some .cell := by decide +kernel
theorem lo_law__law_wait_here : (defScope s_law).names.lookup ("_law_wait_here" : Str) = some .local := by decide +kernel
theorem lo_law__law_keepers : (defScope s_law).names.lookup ("_law_keepers" : Str) = some .local := by decide +kernel
theorem lo_law__law_one : (defScope s_law).names.lookup ("_law_one" : Str) = some .local := by decide +kernel
theorem lo_law__law_other : (defScope s_law).names.lookup ("_law_other" : Str) = some .local := by decide +kernel
theorem lo_law__law_before : (defScope s_law).names.lookup ("_law_before" : Str) = some .local := by decide +kernel
theorem lo_law__law_clock : (defScope s_law).names.lookup ("_law_clock" : Str) = some .local := by decide +kernel
theorem lo_law__law_number : (defScope s_law).names.lookup ("_law_number" : Str) = some .local := by decide +kernel
theorem lo_law__law_first : (defScope s_law).names.lookup ("_law_first" : Str) = some .local := by decide +kernel
theorem lo_law__law_asked : (defScope s_law).names.lookup ("_law_asked" : Str) = some .local := by decide +kernel
theorem lo_law__law_k : (defScope s_law).names.lookup ("_law_k" : Str) = some .local := by decide +kernel
theorem lo_law__law_yes : (defScope s_law).names.lookup ("_law_yes" : Str) = some .local := by decide +kernel
theorem lo_law__law_keeper : (defScope s_law).names.lookup ("_law_keeper" : Str) = some .local := by decide +kernel
theorem lo_law__law_terms : (defScope s_law).names.lookup ("_law_terms" : Str) = some .globalImplicit := by decide +kernel
theorem lo_law_Terms : (defScope s_law).names.lookup ("Terms" : Str) = some .globalImplicit := by decide +kernel
theorem lo_law__law_wait : (defScope s_law).names.lookup ("_law_wait" : Str) = some .globalImplicit := by decide +kernel
theorem lo_law_Holder : (defScope s_law).names.lookup ("Holder" : Str) = some .globalImplicit := by decide +kernel
theorem lo_law_range : (defScope s_law).names.lookup ("range" : Str) = some .globalImplicit := by decide +kernel
theorem lo_law__law_gets : (defScope s_law).names.lookup ("_law_gets" : Str) = some .globalImplicit := by decide +kernel
theorem lo_law__law_mix : (defScope s_law).names.lookup ("_law_mix" : Str) = some .globalImplicit := by decide +kernel
theorem lo_law_list : (defScope s_law).names.lookup ("list" : Str) = some .globalImplicit := by decide +kernel
theorem nm_latest : Nm "latest" := ⟨by decide +kernel, by decide +kernel, by decide +kernel⟩
theorem nm_clock : Nm "clock" := ⟨by decide +kernel, by decide +kernel, by decide +kernel⟩
theorem nm_Back : Nm "Back" := ⟨by decide +kernel, by decide +kernel, by decide +kernel⟩
theorem nm_self : Nm "self" := ⟨by decide +kernel, by decide +kernel, by decide +kernel⟩
theorem nm_terms : Nm "terms" := ⟨by decide +kernel, by decide +kernel, by decide +kernel⟩
theorem nm_name : Nm "name" := ⟨by decide +kernel, by decide +kernel, by decide +kernel⟩
theorem nm_number : Nm "number" := ⟨by decide +kernel, by decide +kernel, by decide +kernel⟩
theorem nm_gone_on : Nm "gone_on" := ⟨by decide +kernel, by decide +kernel, by decide +kernel⟩
theorem nm_life : Nm "life" := ⟨by decide +kernel, by decide +kernel, by decide +kernel⟩
theorem nm_oldest : Nm "oldest" := ⟨by decide +kernel, by decide +kernel, by decide +kernel⟩
theorem nm_len : Nm "len" := ⟨by decide +kernel, by decide +kernel, by decide +kernel⟩
theorem nm_keeper : Nm "keeper" := ⟨by decide +kernel, by decide +kernel, by decide +kernel⟩
theorem nm_NoKeeper : Nm "NoKeeper" := ⟨by decide +kernel, by decide +kernel, by decide +kernel⟩
theorem nm_max : Nm "max" := ⟨by decide +kernel, by decide +kernel, by decide +kernel⟩
theorem nm_end : Nm "end" := ⟨by decide +kernel, by decide +kernel, by decide +kernel⟩
theorem nm_sorted : Nm "sorted" := ⟨by decide +kernel, by decide +kernel, by decide +kernel⟩
theorem nm_NotAsked : Nm "NotAsked" := ⟨by decide +kernel, by decide +kernel, by decide +kernel⟩
theorem nm_low : Nm "low" := ⟨by decide +kernel, by decide +kernel, by decide +kernel⟩
theorem nm_high : Nm "high" := ⟨by decide +kernel, by decide +kernel, by decide +kernel⟩
theorem nm_MOST_STEP : Nm "MOST_STEP" := ⟨by decide +kernel, by decide +kernel, by decide +kernel⟩
theorem nm_BadTerms : Nm "BadTerms" := ⟨by decide +kernel, by decide +kernel, by decide +kernel⟩
theorem nm_length : Nm "length" := ⟨by decide +kernel, by decide +kernel, by decide +kernel⟩
theorem nm_MOST_LENGTH : Nm "MOST_LENGTH" := ⟨by decide +kernel, by decide +kernel, by decide +kernel⟩
theorem nm_keepers : Nm "keepers" := ⟨by decide +kernel, by decide +kernel, by decide +kernel⟩
theorem nm_MOST_KEEPERS : Nm "MOST_KEEPERS" := ⟨by decide +kernel, by decide +kernel, by decide +kernel⟩
theorem nm_refuse_bad_steps : Nm "refuse_bad_steps" := ⟨by decide +kernel, by decide +kernel, by decide +kernel⟩
theorem nm_refuse_bad_length : Nm "refuse_bad_length" := ⟨by decide +kernel, by decide +kernel, by decide +kernel⟩
theorem nm_refuse_bad_keepers : Nm "refuse_bad_keepers" := ⟨by decide +kernel, by decide +kernel, by decide +kernel⟩
theorem nm__law_script : Nm "_law_script" := ⟨by decide +kernel, by decide +kernel, by decide +kernel⟩
theorem nm__law_k : Nm "_law_k" := ⟨by decide +kernel, by decide +kernel, by decide +kernel⟩
theorem nm__law_number : Nm "_law_number" := ⟨by decide +kernel, by decide +kernel, by decide +kernel⟩
theorem nm__law_cell : Nm "_law_cell" := ⟨by decide +kernel, by decide +kernel, by decide +kernel⟩
theorem nm__law_low : Nm "_law_low" := ⟨by decide +kernel, by decide +kernel, by decide +kernel⟩
theorem nm__law_high : Nm "_law_high" := ⟨by decide +kernel, by decide +kernel, by decide +kernel⟩
theorem nm__law_length : Nm "_law_length" := ⟨by decide +kernel, by decide +kernel, by decide +kernel⟩
theorem nm__law_mix : Nm "_law_mix" := ⟨by decide +kernel, by decide +kernel, by decide +kernel⟩
theorem nm__law_terms_here : Nm "_law_terms_here" := ⟨by decide +kernel, by decide +kernel, by decide +kernel⟩
theorem nm__law_ticks : Nm "_law_ticks" := ⟨by decide +kernel, by decide +kernel, by decide +kernel⟩
theorem nm__law_keepers : Nm "_law_keepers" := ⟨by decide +kernel, by decide +kernel, by decide +kernel⟩
theorem nm__law_clock : Nm "_law_clock" := ⟨by decide +kernel, by decide +kernel, by decide +kernel⟩
theorem nm__law_holder : Nm "_law_holder" := ⟨by decide +kernel, by decide +kernel, by decide +kernel⟩
theorem nm__law_name : Nm "_law_name" := ⟨by decide +kernel, by decide +kernel, by decide +kernel⟩
theorem nm__law_reading : Nm "_law_reading" := ⟨by decide +kernel, by decide +kernel, by decide +kernel⟩
theorem nm__law_yes : Nm "_law_yes" := ⟨by decide +kernel, by decide +kernel, by decide +kernel⟩
theorem nm_range : Nm "range" := ⟨by decide +kernel, by decide +kernel, by decide +kernel⟩
theorem nm__law_made : Nm "_law_made" := ⟨by decide +kernel, by decide +kernel, by decide +kernel⟩
theorem nm__law_wait_here : Nm "_law_wait_here" := ⟨by decide +kernel, by decide +kernel, by decide +kernel⟩
theorem nm__law_one : Nm "_law_one" := ⟨by decide +kernel, by decide +kernel, by decide +kernel⟩
theorem nm__law_other : Nm "_law_other" := ⟨by decide +kernel, by decide +kernel, by decide +kernel⟩
theorem nm__law_before : Nm "_law_before" := ⟨by decide +kernel, by decide +kernel, by decide +kernel⟩
theorem nm__law_first : Nm "_law_first" := ⟨by decide +kernel, by decide +kernel, by decide +kernel⟩
theorem nm__law_asked : Nm "_law_asked" := ⟨by decide +kernel, by decide +kernel, by decide +kernel⟩
theorem nm__law_keeper : Nm "_law_keeper" := ⟨by decide +kernel, by decide +kernel, by decide +kernel⟩
theorem nm__law_terms : Nm "_law_terms" := ⟨by decide +kernel, by decide +kernel, by decide +kernel⟩
theorem nm_Terms : Nm "Terms" := ⟨by decide +kernel, by decide +kernel, by decide +kernel⟩
theorem nm__law_wait : Nm "_law_wait" := ⟨by decide +kernel, by decide +kernel, by decide +kernel⟩
theorem nm_Holder : Nm "Holder" := ⟨by decide +kernel, by decide +kernel, by decide +kernel⟩
theorem nm__law_gets : Nm "_law_gets" := ⟨by decide +kernel, by decide +kernel, by decide +kernel⟩
theorem nm_Keeper : Nm "Keeper" := ⟨by decide +kernel, by decide +kernel, by decide +kernel⟩
theorem nm_list : Nm "list" := ⟨by decide +kernel, by decide +kernel, by decide +kernel⟩
def flds_Keeper (v_pause v_latest v_name v_number v_over : V) : List (Str × V) := [("pause", v_pause), ("latest", v_latest), ("name", v_name), ("number", v_number), ("over", v_over)]
section
variable {v_pause v_latest v_name v_number v_over : V}
theorem get_Keeper_pause : (flds_Keeper v_pause v_latest v_name v_number v_over).lookup ("pause" : Str) = some v_pause := by rfl
theorem get_Keeper_latest : (flds_Keeper v_pause v_latest v_name v_number v_over).lookup ("latest" : Str) = some v_latest := by rfl
theorem put_Keeper_latest {y : V} : putF "latest" y (flds_Keeper v_pause v_latest v_name v_number v_over) = flds_Keeper v_pause y v_name v_number v_over := by rfl
theorem get_Keeper_name : (flds_Keeper v_pause v_latest v_name v_number v_over).lookup ("name" : Str) = some v_name := by rfl
theorem put_Keeper_name {y : V} : putF "name" y (flds_Keeper v_pause v_latest v_name v_number v_over) = flds_Keeper v_pause v_latest y v_number v_over := by rfl
theorem get_Keeper_number : (flds_Keeper v_pause v_latest v_name v_number v_over).lookup ("number" : Str) = some v_number := by rfl
theorem put_Keeper_number {y : V} : putF "number" y (flds_Keeper v_pause v_latest v_name v_number v_over) = flds_Keeper v_pause v_latest v_name y v_over := by rfl
theorem get_Keeper_over : (flds_Keeper v_pause v_latest v_name v_number v_over).lookup ("over" : Str) = some v_over := by rfl
theorem put_Keeper_over {y : V} : putF "over" y (flds_Keeper v_pause v_latest v_name v_number v_over) = flds_Keeper v_pause v_latest v_name v_number y := by rfl
end
def flds_Holder (v_length v_needed v_name v_life v_latest v_told v_asks v_ends : V) : List (Str × V) := [("length", v_length), ("needed", v_needed), ("name", v_name), ("life", v_life), ("latest", v_latest), ("told", v_told), ("asks", v_asks), ("ends", v_ends)]
section
variable {v_length v_needed v_name v_life v_latest v_told v_asks v_ends : V}
theorem get_Holder_length : (flds_Holder v_length v_needed v_name v_life v_latest v_told v_asks v_ends).lookup ("length" : Str) = some v_length := by rfl
theorem get_Holder_needed : (flds_Holder v_length v_needed v_name v_life v_latest v_told v_asks v_ends).lookup ("needed" : Str) = some v_needed := by rfl
theorem get_Holder_life : (flds_Holder v_length v_needed v_name v_life v_latest v_told v_asks v_ends).lookup ("life" : Str) = some v_life := by rfl
theorem get_Holder_latest : (flds_Holder v_length v_needed v_name v_life v_latest v_told v_asks v_ends).lookup ("latest" : Str) = some v_latest := by rfl
theorem put_Holder_latest {y : V} : putF "latest" y (flds_Holder v_length v_needed v_name v_life v_latest v_told v_asks v_ends) = flds_Holder v_length v_needed v_name v_life y v_told v_asks v_ends := by rfl
theorem get_Holder_told : (flds_Holder v_length v_needed v_name v_life v_latest v_told v_asks v_ends).lookup ("told" : Str) = some v_told := by rfl
theorem put_Holder_told {y : V} : putF "told" y (flds_Holder v_length v_needed v_name v_life v_latest v_told v_asks v_ends) = flds_Holder v_length v_needed v_name v_life v_latest y v_asks v_ends := by rfl
theorem get_Holder_asks : (flds_Holder v_length v_needed v_name v_life v_latest v_told v_asks v_ends).lookup ("asks" : Str) = some v_asks := by rfl
theorem put_Holder_asks {y : V} : putF "asks" y (flds_Holder v_length v_needed v_name v_life v_latest v_told v_asks v_ends) = flds_Holder v_length v_needed v_name v_life v_latest v_told y v_ends := by rfl
theorem get_Holder_ends : (flds_Holder v_length v_needed v_name v_life v_latest v_told v_asks v_ends).lookup ("ends" : Str) = some v_ends := by rfl
theorem put_Holder_ends {y : V} : putF "ends" y (flds_Holder v_length v_needed v_name v_life v_latest v_told v_asks v_ends) = flds_Holder v_length v_needed v_name v_life v_latest v_told v_asks y := by rfl
theorem no_Holder_ask : (flds_Holder v_length v_needed v_name v_life v_latest v_told v_asks v_ends).lookup ("ask" : Str) = none := by rfl
theorem no_Holder_forget_over : (flds_Holder v_length v_needed v_name v_life v_latest v_told v_asks v_ends).lookup ("forget_over" : Str) = none := by rfl
theorem no_Holder_hear : (flds_Holder v_length v_needed v_name v_life v_latest v_told v_asks v_ends).lookup ("hear" : Str) = none := by rfl
theorem no_Holder_holds : (flds_Holder v_length v_needed v_name v_life v_latest v_told v_asks v_ends).lookup ("holds" : Str) = none := by rfl
theorem no_Holder_until : (flds_Holder v_length v_needed v_name v_life v_latest v_told v_asks v_ends).lookup ("until" : Str) = none := by rfl
theorem no_Holder_free : (flds_Holder v_length v_needed v_name v_life v_latest v_told v_asks v_ends).lookup ("free" : Str) = none := by rfl
end
def flds_Terms (v_low v_high v_length v_keepers : V) : List (Str × V) := [("low", v_low), ("high", v_high), ("length", v_length), ("keepers", v_keepers)]
section
variable {v_low v_high v_length v_keepers : V}
theorem get_Terms_low : (flds_Terms v_low v_high v_length v_keepers).lookup ("low" : Str) = some v_low := by rfl
theorem get_Terms_high : (flds_Terms v_low v_high v_length v_keepers).lookup ("high" : Str) = some v_high := by rfl
theorem get_Terms_length : (flds_Terms v_low v_high v_length v_keepers).lookup ("length" : Str) = some v_length := by rfl
theorem get_Terms_keepers : (flds_Terms v_low v_high v_length v_keepers).lookup ("keepers" : Str) = some v_keepers := by rfl
theorem no_Terms_ticks : (flds_Terms v_low v_high v_length v_keepers).lookup ("ticks" : Str) = none := by rfl
theorem no_Terms_wait : (flds_Terms v_low v_high v_length v_keepers).lookup ("wait" : Str) = none := by rfl
theorem no_Terms_most : (flds_Terms v_low v_high v_length v_keepers).lookup ("most" : Str) = none := by rfl
end
structure Adr where
  f_gone_on : Addr
  d_gone_on : FuncData
  f_Keeper_init : Addr
  d_Keeper_init : FuncData
  f_Keeper_asked : Addr
  d_Keeper_asked : FuncData
  f_Keeper_freed : Addr
  d_Keeper_freed : FuncData
  f_Keeper_let_to : Addr
  d_Keeper_let_to : FuncData
  f_Holder_init : Addr
  d_Holder_init : FuncData
  f_Holder_ask : Addr
  d_Holder_ask : FuncData
  f_Holder_forget_over : Addr
  d_Holder_forget_over : FuncData
  f_Holder_hear : Addr
  d_Holder_hear : FuncData
  f_Holder_holds : Addr
  d_Holder_holds : FuncData
  f_Holder_until : Addr
  d_Holder_until : FuncData
  f_Holder_free : Addr
  d_Holder_free : FuncData
  f_refuse_bad_steps : Addr
  d_refuse_bad_steps : FuncData
  f_refuse_bad_length : Addr
  d_refuse_bad_length : FuncData
  f_refuse_bad_keepers : Addr
  d_refuse_bad_keepers : FuncData
  f_Terms_init : Addr
  d_Terms_init : FuncData
  f_Terms_ticks : Addr
  d_Terms_ticks : FuncData
  f_Terms_wait : Addr
  d_Terms_wait : FuncData
  f_Terms_most : Addr
  d_Terms_most : FuncData
  f_law_cell : Addr
  d_law_cell : FuncData
  f_law_mix : Addr
  d_law_mix : FuncData
  f_law_terms : Addr
  d_law_terms : FuncData
  f_law_wait : Addr
  d_law_wait : FuncData
  f_law_gets : Addr
  d_law_gets : FuncData
  f_law : Addr
  d_law : FuncData
  Keeper : Addr
  Holder : Addr
  Terms : Addr
  LeaseError : Addr
  BadTerms : Addr
  Back : Addr
  NoKeeper : Addr
  NotAsked : Addr
structure Txt (K : PySem.W.Frag) (mg : Str → Option Value) (t : Adr) : Prop where
  F_gone_on : Fun K "gone_on" "gone_on" s_gone_on t.f_gone_on t.d_gone_on
  b_gone_on : Binds K t.d_gone_on ["latest", "clock"] []
  m_gone_on : mg "gone_on" = some (.ref t.f_gone_on)
  F_Keeper_init : Fun K "__init__" "Keeper.__init__" s_Keeper_init t.f_Keeper_init t.d_Keeper_init
  b_Keeper_init : Binds K t.d_Keeper_init ["self", "terms", "clock"] []
  F_Keeper_asked : Fun K "asked" "Keeper.asked" s_Keeper_asked t.f_Keeper_asked t.d_Keeper_asked
  b_Keeper_asked : Binds K t.d_Keeper_asked ["self", "clock", "name", "number"] []
  h_Keeper_asked : Meth K t.Keeper "asked" t.f_Keeper_asked
  F_Keeper_freed : Fun K "freed" "Keeper.freed" s_Keeper_freed t.f_Keeper_freed t.d_Keeper_freed
  b_Keeper_freed : Binds K t.d_Keeper_freed ["self", "clock", "name", "number"] []
  h_Keeper_freed : Meth K t.Keeper "freed" t.f_Keeper_freed
  F_Keeper_let_to : Fun K "let_to" "Keeper.let_to" s_Keeper_let_to t.f_Keeper_let_to t.d_Keeper_let_to
  b_Keeper_let_to : Binds K t.d_Keeper_let_to ["self", "clock"] []
  h_Keeper_let_to : Meth K t.Keeper "let_to" t.f_Keeper_let_to
  F_Holder_init : Fun K "__init__" "Holder.__init__" s_Holder_init t.f_Holder_init t.d_Holder_init
  b_Holder_init : Binds K t.d_Holder_init ["self", "terms", "name", "life", "clock"] []
  F_Holder_ask : Fun K "ask" "Holder.ask" s_Holder_ask t.f_Holder_ask t.d_Holder_ask
  b_Holder_ask : Binds K t.d_Holder_ask ["self", "clock"] []
  h_Holder_ask : Meth K t.Holder "ask" t.f_Holder_ask
  F_Holder_forget_over : Fun K "forget_over" "Holder.forget_over" s_Holder_forget_over t.f_Holder_forget_over t.d_Holder_forget_over
  b_Holder_forget_over : Binds K t.d_Holder_forget_over ["self", "clock"] []
  h_Holder_forget_over : Meth K t.Holder "forget_over" t.f_Holder_forget_over
  F_Holder_hear : Fun K "hear" "Holder.hear" s_Holder_hear t.f_Holder_hear t.d_Holder_hear
  b_Holder_hear : Binds K t.d_Holder_hear ["self", "clock", "keeper", "number"] []
  h_Holder_hear : Meth K t.Holder "hear" t.f_Holder_hear
  F_Holder_holds : Fun K "holds" "Holder.holds" s_Holder_holds t.f_Holder_holds t.d_Holder_holds
  b_Holder_holds : Binds K t.d_Holder_holds ["self", "clock"] []
  h_Holder_holds : Meth K t.Holder "holds" t.f_Holder_holds
  F_Holder_until : Fun K "until" "Holder.until" s_Holder_until t.f_Holder_until t.d_Holder_until
  b_Holder_until : Binds K t.d_Holder_until ["self", "clock"] []
  h_Holder_until : Meth K t.Holder "until" t.f_Holder_until
  F_Holder_free : Fun K "free" "Holder.free" s_Holder_free t.f_Holder_free t.d_Holder_free
  b_Holder_free : Binds K t.d_Holder_free ["self", "clock"] []
  h_Holder_free : Meth K t.Holder "free" t.f_Holder_free
  F_refuse_bad_steps : Fun K "refuse_bad_steps" "refuse_bad_steps" s_refuse_bad_steps t.f_refuse_bad_steps t.d_refuse_bad_steps
  b_refuse_bad_steps : Binds K t.d_refuse_bad_steps ["low", "high"] []
  m_refuse_bad_steps : mg "refuse_bad_steps" = some (.ref t.f_refuse_bad_steps)
  F_refuse_bad_length : Fun K "refuse_bad_length" "refuse_bad_length" s_refuse_bad_length t.f_refuse_bad_length t.d_refuse_bad_length
  b_refuse_bad_length : Binds K t.d_refuse_bad_length ["length"] []
  m_refuse_bad_length : mg "refuse_bad_length" = some (.ref t.f_refuse_bad_length)
  F_refuse_bad_keepers : Fun K "refuse_bad_keepers" "refuse_bad_keepers" s_refuse_bad_keepers t.f_refuse_bad_keepers t.d_refuse_bad_keepers
  b_refuse_bad_keepers : Binds K t.d_refuse_bad_keepers ["keepers"] []
  m_refuse_bad_keepers : mg "refuse_bad_keepers" = some (.ref t.f_refuse_bad_keepers)
  F_Terms_init : Fun K "__init__" "Terms.__init__" s_Terms_init t.f_Terms_init t.d_Terms_init
  b_Terms_init : Binds K t.d_Terms_init ["self", "low", "high", "length", "keepers"] []
  F_Terms_ticks : Fun K "ticks" "Terms.ticks" s_Terms_ticks t.f_Terms_ticks t.d_Terms_ticks
  b_Terms_ticks : Binds K t.d_Terms_ticks ["self"] []
  h_Terms_ticks : Meth K t.Terms "ticks" t.f_Terms_ticks
  F_Terms_wait : Fun K "wait" "Terms.wait" s_Terms_wait t.f_Terms_wait t.d_Terms_wait
  b_Terms_wait : Binds K t.d_Terms_wait ["self"] []
  h_Terms_wait : Meth K t.Terms "wait" t.f_Terms_wait
  F_Terms_most : Fun K "most" "Terms.most" s_Terms_most t.f_Terms_most t.d_Terms_most
  b_Terms_most : Binds K t.d_Terms_most ["self"] []
  h_Terms_most : Meth K t.Terms "most" t.f_Terms_most
  F_law_cell : Fun K "_law_cell" "_law_cell" s_law_cell t.f_law_cell t.d_law_cell
  b_law_cell : Binds K t.d_law_cell ["_law_script", "_law_k"] []
  m_law_cell : mg "_law_cell" = some (.ref t.f_law_cell)
  F_law_mix : Fun K "_law_mix" "_law_mix" s_law_mix t.f_law_mix t.d_law_mix
  b_law_mix : Binds K t.d_law_mix ["_law_script", "_law_k"] []
  m_law_mix : mg "_law_mix" = some (.ref t.f_law_mix)
  F_law_terms : Fun K "_law_terms" "_law_terms" s_law_terms t.f_law_terms t.d_law_terms
  b_law_terms : Binds K t.d_law_terms ["_law_script", "_law_k"] []
  m_law_terms : mg "_law_terms" = some (.ref t.f_law_terms)
  F_law_wait : Fun K "_law_wait" "_law_wait" s_law_wait t.f_law_wait t.d_law_wait
  b_law_wait : Binds K t.d_law_wait ["_law_terms_here"] []
  m_law_wait : mg "_law_wait" = some (.ref t.f_law_wait)
  F_law_gets : Fun K "_law_gets" "_law_gets" s_law_gets t.f_law_gets t.d_law_gets
  b_law_gets : Binds K t.d_law_gets ["_law_keepers", "_law_clock", "_law_holder", "_law_name", "_law_reading"] []
  m_law_gets : mg "_law_gets" = some (.ref t.f_law_gets)
  F_law : Fun K "law" "law" s_law t.f_law t.d_law
  b_law : Binds K t.d_law ["_law_script"] []
  m_law : mg "law" = some (.ref t.f_law)
  m_Keeper : mg "Keeper" = some (.ref t.Keeper)
  cl_Keeper : Cls K t.Keeper
  k_Keeper : Mk K t.Keeper t.f_Keeper_init
  nf_Keeper_pause : NoAttr K t.Keeper "pause"
  nf_Keeper_latest : NoAttr K t.Keeper "latest"
  nf_Keeper_name : NoAttr K t.Keeper "name"
  nf_Keeper_number : NoAttr K t.Keeper "number"
  nf_Keeper_over : NoAttr K t.Keeper "over"
  m_Holder : mg "Holder" = some (.ref t.Holder)
  cl_Holder : Cls K t.Holder
  k_Holder : Mk K t.Holder t.f_Holder_init
  nf_Holder_length : NoAttr K t.Holder "length"
  nf_Holder_needed : NoAttr K t.Holder "needed"
  nf_Holder_name : NoAttr K t.Holder "name"
  nf_Holder_life : NoAttr K t.Holder "life"
  nf_Holder_latest : NoAttr K t.Holder "latest"
  nf_Holder_told : NoAttr K t.Holder "told"
  nf_Holder_asks : NoAttr K t.Holder "asks"
  nf_Holder_ends : NoAttr K t.Holder "ends"
  m_Terms : mg "Terms" = some (.ref t.Terms)
  cl_Terms : Cls K t.Terms
  k_Terms : Mk K t.Terms t.f_Terms_init
  nf_Terms_low : NoAttr K t.Terms "low"
  nf_Terms_high : NoAttr K t.Terms "high"
  nf_Terms_length : NoAttr K t.Terms "length"
  nf_Terms_keepers : NoAttr K t.Terms "keepers"
  m_LeaseError : mg "LeaseError" = some (.ref t.LeaseError)
  n_LeaseError : PySem.W.nsIn K mainGlobals "LeaseError" = some (some (.ref t.LeaseError))
  x_LeaseError : PySem.W.excIn K t.LeaseError [.type "ValueError", .type "Exception", .type "BaseException", .type "object"] "ValueError.__new__" = true
  m_BadTerms : mg "BadTerms" = some (.ref t.BadTerms)
  n_BadTerms : PySem.W.nsIn K mainGlobals "BadTerms" = some (some (.ref t.BadTerms))
  x_BadTerms : PySem.W.excIn K t.BadTerms [.type "ValueError", .type "Exception", .type "BaseException", .type "object"] "ValueError.__new__" = true
  m_Back : mg "Back" = some (.ref t.Back)
  n_Back : PySem.W.nsIn K mainGlobals "Back" = some (some (.ref t.Back))
  x_Back : PySem.W.excIn K t.Back [.type "ValueError", .type "Exception", .type "BaseException", .type "object"] "ValueError.__new__" = true
  m_NoKeeper : mg "NoKeeper" = some (.ref t.NoKeeper)
  n_NoKeeper : PySem.W.nsIn K mainGlobals "NoKeeper" = some (some (.ref t.NoKeeper))
  x_NoKeeper : PySem.W.excIn K t.NoKeeper [.type "ValueError", .type "Exception", .type "BaseException", .type "object"] "ValueError.__new__" = true
  m_NotAsked : mg "NotAsked" = some (.ref t.NotAsked)
  n_NotAsked : PySem.W.nsIn K mainGlobals "NotAsked" = some (some (.ref t.NotAsked))
  x_NotAsked : PySem.W.excIn K t.NotAsked [.type "ValueError", .type "Exception", .type "BaseException", .type "object"] "ValueError.__new__" = true
  e_BadTerms : ExcCls K t.BadTerms
  r_BadTerms_LeaseError : PySem.W.exmOne K (.ref t.BadTerms) (.ref t.LeaseError) = some true
  i_BadTerms_BadTerms : PySem.W.kitOne K (.ref t.BadTerms) (.ref t.BadTerms) = some true
  i_BadTerms_Back : PySem.W.kitOne K (.ref t.BadTerms) (.ref t.Back) = some false
  i_BadTerms_NoKeeper : PySem.W.kitOne K (.ref t.BadTerms) (.ref t.NoKeeper) = some false
  i_BadTerms_NotAsked : PySem.W.kitOne K (.ref t.BadTerms) (.ref t.NotAsked) = some false
  i_BadTerms_ValueError : PySem.W.kitOne K (.ref t.BadTerms) (.type "ValueError") = some true
  e_Back : ExcCls K t.Back
  r_Back_LeaseError : PySem.W.exmOne K (.ref t.Back) (.ref t.LeaseError) = some true
  i_Back_BadTerms : PySem.W.kitOne K (.ref t.Back) (.ref t.BadTerms) = some false
  i_Back_Back : PySem.W.kitOne K (.ref t.Back) (.ref t.Back) = some true
  i_Back_NoKeeper : PySem.W.kitOne K (.ref t.Back) (.ref t.NoKeeper) = some false
  i_Back_NotAsked : PySem.W.kitOne K (.ref t.Back) (.ref t.NotAsked) = some false
  i_Back_ValueError : PySem.W.kitOne K (.ref t.Back) (.type "ValueError") = some true
  e_NoKeeper : ExcCls K t.NoKeeper
  r_NoKeeper_LeaseError : PySem.W.exmOne K (.ref t.NoKeeper) (.ref t.LeaseError) = some true
  i_NoKeeper_BadTerms : PySem.W.kitOne K (.ref t.NoKeeper) (.ref t.BadTerms) = some false
  i_NoKeeper_Back : PySem.W.kitOne K (.ref t.NoKeeper) (.ref t.Back) = some false
  i_NoKeeper_NoKeeper : PySem.W.kitOne K (.ref t.NoKeeper) (.ref t.NoKeeper) = some true
  i_NoKeeper_NotAsked : PySem.W.kitOne K (.ref t.NoKeeper) (.ref t.NotAsked) = some false
  i_NoKeeper_ValueError : PySem.W.kitOne K (.ref t.NoKeeper) (.type "ValueError") = some true
  e_NotAsked : ExcCls K t.NotAsked
  r_NotAsked_LeaseError : PySem.W.exmOne K (.ref t.NotAsked) (.ref t.LeaseError) = some true
  i_NotAsked_BadTerms : PySem.W.kitOne K (.ref t.NotAsked) (.ref t.BadTerms) = some false
  i_NotAsked_Back : PySem.W.kitOne K (.ref t.NotAsked) (.ref t.Back) = some false
  i_NotAsked_NoKeeper : PySem.W.kitOne K (.ref t.NotAsked) (.ref t.NoKeeper) = some false
  i_NotAsked_NotAsked : PySem.W.kitOne K (.ref t.NotAsked) (.ref t.NotAsked) = some true
  i_NotAsked_ValueError : PySem.W.kitOne K (.ref t.NotAsked) (.type "ValueError") = some true
  m_MOST_STEP : ∃ u, mg "MOST_STEP" = some (.int 1000 u)
  m_MOST_LENGTH : ∃ u, mg "MOST_LENGTH" = some (.int 1000000 u)
  m_MOST_KEEPERS : ∃ u, mg "MOST_KEEPERS" = some (.int 9 u)
  z_len : mg "len" = none
  z_list : mg "list" = none
  z_max : mg "max" = none
  z_range : mg "range" = none
  z_sorted : mg "sorted" = none
section
variable {K : PySem.W.Frag} {mg : Str → Option Value} {t : Adr} {H : Hp} {p dx : Addr} {Q : VK} {Q1 : Hp → Prop} {Q0 : Prop} {y : V}
section
variable {v_pause v_latest v_name v_number v_over : V}
theorem rd_Keeper_pause (T : Txt K mg t) (hp : H p = some (.ins t.Keeper dx (flds_Keeper v_pause v_latest v_name v_number v_over))) (q : Q v_pause H) : rFld K "pause" (.ref p) H Q := rd_fld hp T.cl_Keeper T.nf_Keeper_pause get_Keeper_pause q
theorem rd_Keeper_latest (T : Txt K mg t) (hp : H p = some (.ins t.Keeper dx (flds_Keeper v_pause v_latest v_name v_number v_over))) (q : Q v_latest H) : rFld K "latest" (.ref p) H Q := rd_fld hp T.cl_Keeper T.nf_Keeper_latest get_Keeper_latest q
theorem st_Keeper_latest (T : Txt K mg t) (hp : H p = some (.ins t.Keeper dx (flds_Keeper v_pause v_latest v_name v_number v_over))) (q : Q1 (upd H p (.ins t.Keeper dx (flds_Keeper v_pause y v_name v_number v_over)))) : rPutF K "latest" y (.ref p) H Q1 := rd_put hp T.cl_Keeper T.nf_Keeper_latest (by decide : 5 < 1000) (by rw [put_Keeper_latest]; exact q)
theorem rd_Keeper_name (T : Txt K mg t) (hp : H p = some (.ins t.Keeper dx (flds_Keeper v_pause v_latest v_name v_number v_over))) (q : Q v_name H) : rFld K "name" (.ref p) H Q := rd_fld hp T.cl_Keeper T.nf_Keeper_name get_Keeper_name q
theorem st_Keeper_name (T : Txt K mg t) (hp : H p = some (.ins t.Keeper dx (flds_Keeper v_pause v_latest v_name v_number v_over))) (q : Q1 (upd H p (.ins t.Keeper dx (flds_Keeper v_pause v_latest y v_number v_over)))) : rPutF K "name" y (.ref p) H Q1 := rd_put hp T.cl_Keeper T.nf_Keeper_name (by decide : 5 < 1000) (by rw [put_Keeper_name]; exact q)
theorem rd_Keeper_number (T : Txt K mg t) (hp : H p = some (.ins t.Keeper dx (flds_Keeper v_pause v_latest v_name v_number v_over))) (q : Q v_number H) : rFld K "number" (.ref p) H Q := rd_fld hp T.cl_Keeper T.nf_Keeper_number get_Keeper_number q
theorem st_Keeper_number (T : Txt K mg t) (hp : H p = some (.ins t.Keeper dx (flds_Keeper v_pause v_latest v_name v_number v_over))) (q : Q1 (upd H p (.ins t.Keeper dx (flds_Keeper v_pause v_latest v_name y v_over)))) : rPutF K "number" y (.ref p) H Q1 := rd_put hp T.cl_Keeper T.nf_Keeper_number (by decide : 5 < 1000) (by rw [put_Keeper_number]; exact q)
theorem rd_Keeper_over (T : Txt K mg t) (hp : H p = some (.ins t.Keeper dx (flds_Keeper v_pause v_latest v_name v_number v_over))) (q : Q v_over H) : rFld K "over" (.ref p) H Q := rd_fld hp T.cl_Keeper T.nf_Keeper_over get_Keeper_over q
theorem st_Keeper_over (T : Txt K mg t) (hp : H p = some (.ins t.Keeper dx (flds_Keeper v_pause v_latest v_name v_number v_over))) (q : Q1 (upd H p (.ins t.Keeper dx (flds_Keeper v_pause v_latest v_name v_number y)))) : rPutF K "over" y (.ref p) H Q1 := rd_put hp T.cl_Keeper T.nf_Keeper_over (by decide : 5 < 1000) (by rw [put_Keeper_over]; exact q)
end
section
variable {v_length v_needed v_name v_life v_latest v_told v_asks v_ends : V}
theorem rd_Holder_length (T : Txt K mg t) (hp : H p = some (.ins t.Holder dx (flds_Holder v_length v_needed v_name v_life v_latest v_told v_asks v_ends))) (q : Q v_length H) : rFld K "length" (.ref p) H Q := rd_fld hp T.cl_Holder T.nf_Holder_length get_Holder_length q
theorem rd_Holder_needed (T : Txt K mg t) (hp : H p = some (.ins t.Holder dx (flds_Holder v_length v_needed v_name v_life v_latest v_told v_asks v_ends))) (q : Q v_needed H) : rFld K "needed" (.ref p) H Q := rd_fld hp T.cl_Holder T.nf_Holder_needed get_Holder_needed q
theorem rd_Holder_life (T : Txt K mg t) (hp : H p = some (.ins t.Holder dx (flds_Holder v_length v_needed v_name v_life v_latest v_told v_asks v_ends))) (q : Q v_life H) : rFld K "life" (.ref p) H Q := rd_fld hp T.cl_Holder T.nf_Holder_life get_Holder_life q
theorem rd_Holder_latest (T : Txt K mg t) (hp : H p = some (.ins t.Holder dx (flds_Holder v_length v_needed v_name v_life v_latest v_told v_asks v_ends))) (q : Q v_latest H) : rFld K "latest" (.ref p) H Q := rd_fld hp T.cl_Holder T.nf_Holder_latest get_Holder_latest q
theorem st_Holder_latest (T : Txt K mg t) (hp : H p = some (.ins t.Holder dx (flds_Holder v_length v_needed v_name v_life v_latest v_told v_asks v_ends))) (q : Q1 (upd H p (.ins t.Holder dx (flds_Holder v_length v_needed v_name v_life y v_told v_asks v_ends)))) : rPutF K "latest" y (.ref p) H Q1 := rd_put hp T.cl_Holder T.nf_Holder_latest (by decide : 8 < 1000) (by rw [put_Holder_latest]; exact q)
theorem rd_Holder_told (T : Txt K mg t) (hp : H p = some (.ins t.Holder dx (flds_Holder v_length v_needed v_name v_life v_latest v_told v_asks v_ends))) (q : Q v_told H) : rFld K "told" (.ref p) H Q := rd_fld hp T.cl_Holder T.nf_Holder_told get_Holder_told q
theorem rd_Holder_asks (T : Txt K mg t) (hp : H p = some (.ins t.Holder dx (flds_Holder v_length v_needed v_name v_life v_latest v_told v_asks v_ends))) (q : Q v_asks H) : rFld K "asks" (.ref p) H Q := rd_fld hp T.cl_Holder T.nf_Holder_asks get_Holder_asks q
theorem st_Holder_asks (T : Txt K mg t) (hp : H p = some (.ins t.Holder dx (flds_Holder v_length v_needed v_name v_life v_latest v_told v_asks v_ends))) (q : Q1 (upd H p (.ins t.Holder dx (flds_Holder v_length v_needed v_name v_life v_latest v_told y v_ends)))) : rPutF K "asks" y (.ref p) H Q1 := rd_put hp T.cl_Holder T.nf_Holder_asks (by decide : 8 < 1000) (by rw [put_Holder_asks]; exact q)
theorem rd_Holder_ends (T : Txt K mg t) (hp : H p = some (.ins t.Holder dx (flds_Holder v_length v_needed v_name v_life v_latest v_told v_asks v_ends))) (q : Q v_ends H) : rFld K "ends" (.ref p) H Q := rd_fld hp T.cl_Holder T.nf_Holder_ends get_Holder_ends q
theorem st_Holder_ends (T : Txt K mg t) (hp : H p = some (.ins t.Holder dx (flds_Holder v_length v_needed v_name v_life v_latest v_told v_asks v_ends))) (q : Q1 (upd H p (.ins t.Holder dx (flds_Holder v_length v_needed v_name v_life v_latest v_told v_asks y)))) : rPutF K "ends" y (.ref p) H Q1 := rd_put hp T.cl_Holder T.nf_Holder_ends (by decide : 8 < 1000) (by rw [put_Holder_ends]; exact q)
theorem me_Holder_forget_over (hp : H p = some (.ins t.Holder dx (flds_Holder v_length v_needed v_name v_life v_latest v_told v_asks v_ends))) (q : Q0) : rMeth t.Holder "forget_over" (.ref p) H Q0 := rd_meth hp no_Holder_forget_over q
theorem me_Holder_until (hp : H p = some (.ins t.Holder dx (flds_Holder v_length v_needed v_name v_life v_latest v_told v_asks v_ends))) (q : Q0) : rMeth t.Holder "until" (.ref p) H Q0 := rd_meth hp no_Holder_until q
end
section
variable {v_low v_high v_length v_keepers : V}
theorem rd_Terms_low (T : Txt K mg t) (hp : H p = some (.ins t.Terms dx (flds_Terms v_low v_high v_length v_keepers))) (q : Q v_low H) : rFld K "low" (.ref p) H Q := rd_fld hp T.cl_Terms T.nf_Terms_low get_Terms_low q
theorem rd_Terms_high (T : Txt K mg t) (hp : H p = some (.ins t.Terms dx (flds_Terms v_low v_high v_length v_keepers))) (q : Q v_high H) : rFld K "high" (.ref p) H Q := rd_fld hp T.cl_Terms T.nf_Terms_high get_Terms_high q
theorem rd_Terms_length (T : Txt K mg t) (hp : H p = some (.ins t.Terms dx (flds_Terms v_low v_high v_length v_keepers))) (q : Q v_length H) : rFld K "length" (.ref p) H Q := rd_fld hp T.cl_Terms T.nf_Terms_length get_Terms_length q
theorem rd_Terms_keepers (T : Txt K mg t) (hp : H p = some (.ins t.Terms dx (flds_Terms v_low v_high v_length v_keepers))) (q : Q v_keepers H) : rFld K "keepers" (.ref p) H Q := rd_fld hp T.cl_Terms T.nf_Terms_keepers get_Terms_keepers q
theorem me_Terms_ticks (hp : H p = some (.ins t.Terms dx (flds_Terms v_low v_high v_length v_keepers))) (q : Q0) : rMeth t.Terms "ticks" (.ref p) H Q0 := rd_meth hp no_Terms_ticks q
theorem me_Terms_wait (hp : H p = some (.ins t.Terms dx (flds_Terms v_low v_high v_length v_keepers))) (q : Q0) : rMeth t.Terms "wait" (.ref p) H Q0 := rd_meth hp no_Terms_wait q
theorem me_Terms_most (hp : H p = some (.ins t.Terms dx (flds_Terms v_low v_high v_length v_keepers))) (q : Q0) : rMeth t.Terms "most" (.ref p) H Q0 := rd_meth hp no_Terms_most q
end
end
theorem txt_mk {K : PySem.W.Frag} {h : Heap} {mg : Str → Option Value} (X : K.In h) (G : h.Ns mainGlobals mg)
    {Keeper : Addr}
    {Holder : Addr}
    {Terms : Addr}
    {f_gone_on : Addr} {od_gone_on an_gone_on : Option Addr} {sl_gone_on : Array (Option Value)} {oc_gone_on kV_gone_on dc_gone_on pm_gone_on cd_gone_on ct_gone_on : Value}
    {f_Keeper_init : Addr} {od_Keeper_init an_Keeper_init : Option Addr} {sl_Keeper_init : Array (Option Value)} {oc_Keeper_init kV_Keeper_init dc_Keeper_init pm_Keeper_init cd_Keeper_init ct_Keeper_init : Value}
    {f_Keeper_asked : Addr} {od_Keeper_asked an_Keeper_asked : Option Addr} {sl_Keeper_asked : Array (Option Value)} {oc_Keeper_asked kV_Keeper_asked dc_Keeper_asked pm_Keeper_asked cd_Keeper_asked ct_Keeper_asked : Value}
    {f_Keeper_freed : Addr} {od_Keeper_freed an_Keeper_freed : Option Addr} {sl_Keeper_freed : Array (Option Value)} {oc_Keeper_freed kV_Keeper_freed dc_Keeper_freed pm_Keeper_freed cd_Keeper_freed ct_Keeper_freed : Value}
    {f_Keeper_let_to : Addr} {od_Keeper_let_to an_Keeper_let_to : Option Addr} {sl_Keeper_let_to : Array (Option Value)} {oc_Keeper_let_to kV_Keeper_let_to dc_Keeper_let_to pm_Keeper_let_to cd_Keeper_let_to ct_Keeper_let_to : Value}
    {f_Holder_init : Addr} {od_Holder_init an_Holder_init : Option Addr} {sl_Holder_init : Array (Option Value)} {oc_Holder_init kV_Holder_init dc_Holder_init pm_Holder_init cd_Holder_init ct_Holder_init : Value}
    {f_Holder_ask : Addr} {od_Holder_ask an_Holder_ask : Option Addr} {sl_Holder_ask : Array (Option Value)} {oc_Holder_ask kV_Holder_ask dc_Holder_ask pm_Holder_ask cd_Holder_ask ct_Holder_ask : Value}
    {f_Holder_forget_over : Addr} {od_Holder_forget_over an_Holder_forget_over : Option Addr} {sl_Holder_forget_over : Array (Option Value)} {oc_Holder_forget_over kV_Holder_forget_over dc_Holder_forget_over pm_Holder_forget_over cd_Holder_forget_over ct_Holder_forget_over : Value}
    {f_Holder_hear : Addr} {od_Holder_hear an_Holder_hear : Option Addr} {sl_Holder_hear : Array (Option Value)} {oc_Holder_hear kV_Holder_hear dc_Holder_hear pm_Holder_hear cd_Holder_hear ct_Holder_hear : Value}
    {f_Holder_holds : Addr} {od_Holder_holds an_Holder_holds : Option Addr} {sl_Holder_holds : Array (Option Value)} {oc_Holder_holds kV_Holder_holds dc_Holder_holds pm_Holder_holds cd_Holder_holds ct_Holder_holds : Value}
    {f_Holder_until : Addr} {od_Holder_until an_Holder_until : Option Addr} {sl_Holder_until : Array (Option Value)} {oc_Holder_until kV_Holder_until dc_Holder_until pm_Holder_until cd_Holder_until ct_Holder_until : Value}
    {f_Holder_free : Addr} {od_Holder_free an_Holder_free : Option Addr} {sl_Holder_free : Array (Option Value)} {oc_Holder_free kV_Holder_free dc_Holder_free pm_Holder_free cd_Holder_free ct_Holder_free : Value}
    {f_refuse_bad_steps : Addr} {od_refuse_bad_steps an_refuse_bad_steps : Option Addr} {sl_refuse_bad_steps : Array (Option Value)} {oc_refuse_bad_steps kV_refuse_bad_steps dc_refuse_bad_steps pm_refuse_bad_steps cd_refuse_bad_steps ct_refuse_bad_steps : Value}
    {f_refuse_bad_length : Addr} {od_refuse_bad_length an_refuse_bad_length : Option Addr} {sl_refuse_bad_length : Array (Option Value)} {oc_refuse_bad_length kV_refuse_bad_length dc_refuse_bad_length pm_refuse_bad_length cd_refuse_bad_length ct_refuse_bad_length : Value}
    {f_refuse_bad_keepers : Addr} {od_refuse_bad_keepers an_refuse_bad_keepers : Option Addr} {sl_refuse_bad_keepers : Array (Option Value)} {oc_refuse_bad_keepers kV_refuse_bad_keepers dc_refuse_bad_keepers pm_refuse_bad_keepers cd_refuse_bad_keepers ct_refuse_bad_keepers : Value}
    {f_Terms_init : Addr} {od_Terms_init an_Terms_init : Option Addr} {sl_Terms_init : Array (Option Value)} {oc_Terms_init kV_Terms_init dc_Terms_init pm_Terms_init cd_Terms_init ct_Terms_init : Value}
    {f_Terms_ticks : Addr} {od_Terms_ticks an_Terms_ticks : Option Addr} {sl_Terms_ticks : Array (Option Value)} {oc_Terms_ticks kV_Terms_ticks dc_Terms_ticks pm_Terms_ticks cd_Terms_ticks ct_Terms_ticks : Value}
    {f_Terms_wait : Addr} {od_Terms_wait an_Terms_wait : Option Addr} {sl_Terms_wait : Array (Option Value)} {oc_Terms_wait kV_Terms_wait dc_Terms_wait pm_Terms_wait cd_Terms_wait ct_Terms_wait : Value}
    {f_Terms_most : Addr} {od_Terms_most an_Terms_most : Option Addr} {sl_Terms_most : Array (Option Value)} {oc_Terms_most kV_Terms_most dc_Terms_most pm_Terms_most cd_Terms_most ct_Terms_most : Value}
    {f_law_cell : Addr} {od_law_cell an_law_cell : Option Addr} {sl_law_cell : Array (Option Value)} {oc_law_cell kV_law_cell dc_law_cell pm_law_cell cd_law_cell ct_law_cell : Value}
    {f_law_mix : Addr} {od_law_mix an_law_mix : Option Addr} {sl_law_mix : Array (Option Value)} {oc_law_mix kV_law_mix dc_law_mix pm_law_mix cd_law_mix ct_law_mix : Value}
    {f_law_terms : Addr} {od_law_terms an_law_terms : Option Addr} {sl_law_terms : Array (Option Value)} {oc_law_terms kV_law_terms dc_law_terms pm_law_terms cd_law_terms ct_law_terms : Value}
    {f_law_wait : Addr} {od_law_wait an_law_wait : Option Addr} {sl_law_wait : Array (Option Value)} {oc_law_wait kV_law_wait dc_law_wait pm_law_wait cd_law_wait ct_law_wait : Value}
    {f_law_gets : Addr} {od_law_gets an_law_gets : Option Addr} {sl_law_gets : Array (Option Value)} {oc_law_gets kV_law_gets dc_law_gets pm_law_gets cd_law_gets ct_law_gets : Value}
    {f_law : Addr} {od_law an_law : Option Addr} {sl_law : Array (Option Value)} {oc_law kV_law dc_law pm_law cd_law ct_law : Value}
    {LeaseError : Addr}
    {BadTerms : Addr}
    {Back : Addr}
    {NoKeeper : Addr}
    {NotAsked : Addr}
    {cd_BadTerms : ClassData}
    {cd_Back : ClassData}
    {cd_NoKeeper : ClassData}
    {cd_NotAsked : ClassData}
    {t_MOST_STEP : Tok}
    {t_MOST_LENGTH : Tok}
    {t_MOST_KEEPERS : Tok}
    (a_Keeper : PySem.W.nsIn K mainGlobals "Keeper" = some (some (.ref Keeper)))
    (a_Holder : PySem.W.nsIn K mainGlobals "Holder" = some (some (.ref Holder)))
    (a_Terms : PySem.W.nsIn K mainGlobals "Terms" = some (some (.ref Terms)))
    (a_gone_on : PySem.W.nsIn K mainGlobals "gone_on" = some (some (.ref f_gone_on)))
    (l_gone_on : K.lookup f_gone_on = some ⟨oc_gone_on, od_gone_on, .func (PySem.W.fnOf "gone_on" "gone_on" (defArgs s_gone_on) (defBody s_gone_on) (defScope s_gone_on) .none kV_gone_on dc_gone_on pm_gone_on an_gone_on cd_gone_on ct_gone_on), sl_gone_on⟩)
    (c_gone_on : PySem.W.codeIn K cd_gone_on "gone_on" = true)
    (p_gone_on : PySem.W.keepIn K (.ref f_gone_on) = true)
    (a_Keeper_init : PySem.W.findIn K (.ref Keeper) "__init__" = some (some (.ref f_Keeper_init)))
    (i_Keeper_init : PySem.W.isFn K (.ref f_Keeper_init) = true)
    (l_Keeper_init : K.lookup f_Keeper_init = some ⟨oc_Keeper_init, od_Keeper_init, .func (PySem.W.fnOf "__init__" "Keeper.__init__" (defArgs s_Keeper_init) (defBody s_Keeper_init) (defScope s_Keeper_init) .none kV_Keeper_init dc_Keeper_init pm_Keeper_init an_Keeper_init cd_Keeper_init ct_Keeper_init), sl_Keeper_init⟩)
    (c_Keeper_init : PySem.W.codeIn K cd_Keeper_init "Keeper.__init__" = true)
    (p_Keeper_init : PySem.W.keepIn K (.ref f_Keeper_init) = true)
    (a_Keeper_asked : PySem.W.findIn K (.ref Keeper) "asked" = some (some (.ref f_Keeper_asked)))
    (i_Keeper_asked : PySem.W.isFn K (.ref f_Keeper_asked) = true)
    (l_Keeper_asked : K.lookup f_Keeper_asked = some ⟨oc_Keeper_asked, od_Keeper_asked, .func (PySem.W.fnOf "asked" "Keeper.asked" (defArgs s_Keeper_asked) (defBody s_Keeper_asked) (defScope s_Keeper_asked) .none kV_Keeper_asked dc_Keeper_asked pm_Keeper_asked an_Keeper_asked cd_Keeper_asked ct_Keeper_asked), sl_Keeper_asked⟩)
    (c_Keeper_asked : PySem.W.codeIn K cd_Keeper_asked "Keeper.asked" = true)
    (p_Keeper_asked : PySem.W.keepIn K (.ref f_Keeper_asked) = true)
    (a_Keeper_freed : PySem.W.findIn K (.ref Keeper) "freed" = some (some (.ref f_Keeper_freed)))
    (i_Keeper_freed : PySem.W.isFn K (.ref f_Keeper_freed) = true)
    (l_Keeper_freed : K.lookup f_Keeper_freed = some ⟨oc_Keeper_freed, od_Keeper_freed, .func (PySem.W.fnOf "freed" "Keeper.freed" (defArgs s_Keeper_freed) (defBody s_Keeper_freed) (defScope s_Keeper_freed) .none kV_Keeper_freed dc_Keeper_freed pm_Keeper_freed an_Keeper_freed cd_Keeper_freed ct_Keeper_freed), sl_Keeper_freed⟩)
    (c_Keeper_freed : PySem.W.codeIn K cd_Keeper_freed "Keeper.freed" = true)
    (p_Keeper_freed : PySem.W.keepIn K (.ref f_Keeper_freed) = true)
    (a_Keeper_let_to : PySem.W.findIn K (.ref Keeper) "let_to" = some (some (.ref f_Keeper_let_to)))
    (i_Keeper_let_to : PySem.W.isFn K (.ref f_Keeper_let_to) = true)
    (l_Keeper_let_to : K.lookup f_Keeper_let_to = some ⟨oc_Keeper_let_to, od_Keeper_let_to, .func (PySem.W.fnOf "let_to" "Keeper.let_to" (defArgs s_Keeper_let_to) (defBody s_Keeper_let_to) (defScope s_Keeper_let_to) .none kV_Keeper_let_to dc_Keeper_let_to pm_Keeper_let_to an_Keeper_let_to cd_Keeper_let_to ct_Keeper_let_to), sl_Keeper_let_to⟩)
    (c_Keeper_let_to : PySem.W.codeIn K cd_Keeper_let_to "Keeper.let_to" = true)
    (p_Keeper_let_to : PySem.W.keepIn K (.ref f_Keeper_let_to) = true)
    (a_Holder_init : PySem.W.findIn K (.ref Holder) "__init__" = some (some (.ref f_Holder_init)))
    (i_Holder_init : PySem.W.isFn K (.ref f_Holder_init) = true)
    (l_Holder_init : K.lookup f_Holder_init = some ⟨oc_Holder_init, od_Holder_init, .func (PySem.W.fnOf "__init__" "Holder.__init__" (defArgs s_Holder_init) (defBody s_Holder_init) (defScope s_Holder_init) .none kV_Holder_init dc_Holder_init pm_Holder_init an_Holder_init cd_Holder_init ct_Holder_init), sl_Holder_init⟩)
    (c_Holder_init : PySem.W.codeIn K cd_Holder_init "Holder.__init__" = true)
    (p_Holder_init : PySem.W.keepIn K (.ref f_Holder_init) = true)
    (a_Holder_ask : PySem.W.findIn K (.ref Holder) "ask" = some (some (.ref f_Holder_ask)))
    (i_Holder_ask : PySem.W.isFn K (.ref f_Holder_ask) = true)
    (l_Holder_ask : K.lookup f_Holder_ask = some ⟨oc_Holder_ask, od_Holder_ask, .func (PySem.W.fnOf "ask" "Holder.ask" (defArgs s_Holder_ask) (defBody s_Holder_ask) (defScope s_Holder_ask) .none kV_Holder_ask dc_Holder_ask pm_Holder_ask an_Holder_ask cd_Holder_ask ct_Holder_ask), sl_Holder_ask⟩)
    (c_Holder_ask : PySem.W.codeIn K cd_Holder_ask "Holder.ask" = true)
    (p_Holder_ask : PySem.W.keepIn K (.ref f_Holder_ask) = true)
    (a_Holder_forget_over : PySem.W.findIn K (.ref Holder) "forget_over" = some (some (.ref f_Holder_forget_over)))
    (i_Holder_forget_over : PySem.W.isFn K (.ref f_Holder_forget_over) = true)
    (l_Holder_forget_over : K.lookup f_Holder_forget_over = some ⟨oc_Holder_forget_over, od_Holder_forget_over, .func (PySem.W.fnOf "forget_over" "Holder.forget_over" (defArgs s_Holder_forget_over) (defBody s_Holder_forget_over) (defScope s_Holder_forget_over) .none kV_Holder_forget_over dc_Holder_forget_over pm_Holder_forget_over an_Holder_forget_over cd_Holder_forget_over ct_Holder_forget_over), sl_Holder_forget_over⟩)
    (c_Holder_forget_over : PySem.W.codeIn K cd_Holder_forget_over "Holder.forget_over" = true)
    (p_Holder_forget_over : PySem.W.keepIn K (.ref f_Holder_forget_over) = true)
    (a_Holder_hear : PySem.W.findIn K (.ref Holder) "hear" = some (some (.ref f_Holder_hear)))
    (i_Holder_hear : PySem.W.isFn K (.ref f_Holder_hear) = true)
    (l_Holder_hear : K.lookup f_Holder_hear = some ⟨oc_Holder_hear, od_Holder_hear, .func (PySem.W.fnOf "hear" "Holder.hear" (defArgs s_Holder_hear) (defBody s_Holder_hear) (defScope s_Holder_hear) .none kV_Holder_hear dc_Holder_hear pm_Holder_hear an_Holder_hear cd_Holder_hear ct_Holder_hear), sl_Holder_hear⟩)
    (c_Holder_hear : PySem.W.codeIn K cd_Holder_hear "Holder.hear" = true)
    (p_Holder_hear : PySem.W.keepIn K (.ref f_Holder_hear) = true)
    (a_Holder_holds : PySem.W.findIn K (.ref Holder) "holds" = some (some (.ref f_Holder_holds)))
    (i_Holder_holds : PySem.W.isFn K (.ref f_Holder_holds) = true)
    (l_Holder_holds : K.lookup f_Holder_holds = some ⟨oc_Holder_holds, od_Holder_holds, .func (PySem.W.fnOf "holds" "Holder.holds" (defArgs s_Holder_holds) (defBody s_Holder_holds) (defScope s_Holder_holds) .none kV_Holder_holds dc_Holder_holds pm_Holder_holds an_Holder_holds cd_Holder_holds ct_Holder_holds), sl_Holder_holds⟩)
    (c_Holder_holds : PySem.W.codeIn K cd_Holder_holds "Holder.holds" = true)
    (p_Holder_holds : PySem.W.keepIn K (.ref f_Holder_holds) = true)
    (a_Holder_until : PySem.W.findIn K (.ref Holder) "until" = some (some (.ref f_Holder_until)))
    (i_Holder_until : PySem.W.isFn K (.ref f_Holder_until) = true)
    (l_Holder_until : K.lookup f_Holder_until = some ⟨oc_Holder_until, od_Holder_until, .func (PySem.W.fnOf "until" "Holder.until" (defArgs s_Holder_until) (defBody s_Holder_until) (defScope s_Holder_until) .none kV_Holder_until dc_Holder_until pm_Holder_until an_Holder_until cd_Holder_until ct_Holder_until), sl_Holder_until⟩)
    (c_Holder_until : PySem.W.codeIn K cd_Holder_until "Holder.until" = true)
    (p_Holder_until : PySem.W.keepIn K (.ref f_Holder_until) = true)
    (a_Holder_free : PySem.W.findIn K (.ref Holder) "free" = some (some (.ref f_Holder_free)))
    (i_Holder_free : PySem.W.isFn K (.ref f_Holder_free) = true)
    (l_Holder_free : K.lookup f_Holder_free = some ⟨oc_Holder_free, od_Holder_free, .func (PySem.W.fnOf "free" "Holder.free" (defArgs s_Holder_free) (defBody s_Holder_free) (defScope s_Holder_free) .none kV_Holder_free dc_Holder_free pm_Holder_free an_Holder_free cd_Holder_free ct_Holder_free), sl_Holder_free⟩)
    (c_Holder_free : PySem.W.codeIn K cd_Holder_free "Holder.free" = true)
    (p_Holder_free : PySem.W.keepIn K (.ref f_Holder_free) = true)
    (a_refuse_bad_steps : PySem.W.nsIn K mainGlobals "refuse_bad_steps" = some (some (.ref f_refuse_bad_steps)))
    (l_refuse_bad_steps : K.lookup f_refuse_bad_steps = some ⟨oc_refuse_bad_steps, od_refuse_bad_steps, .func (PySem.W.fnOf "refuse_bad_steps" "refuse_bad_steps" (defArgs s_refuse_bad_steps) (defBody s_refuse_bad_steps) (defScope s_refuse_bad_steps) .none kV_refuse_bad_steps dc_refuse_bad_steps pm_refuse_bad_steps an_refuse_bad_steps cd_refuse_bad_steps ct_refuse_bad_steps), sl_refuse_bad_steps⟩)
    (c_refuse_bad_steps : PySem.W.codeIn K cd_refuse_bad_steps "refuse_bad_steps" = true)
    (p_refuse_bad_steps : PySem.W.keepIn K (.ref f_refuse_bad_steps) = true)
    (a_refuse_bad_length : PySem.W.nsIn K mainGlobals "refuse_bad_length" = some (some (.ref f_refuse_bad_length)))
    (l_refuse_bad_length : K.lookup f_refuse_bad_length = some ⟨oc_refuse_bad_length, od_refuse_bad_length, .func (PySem.W.fnOf "refuse_bad_length" "refuse_bad_length" (defArgs s_refuse_bad_length) (defBody s_refuse_bad_length) (defScope s_refuse_bad_length) .none kV_refuse_bad_length dc_refuse_bad_length pm_refuse_bad_length an_refuse_bad_length cd_refuse_bad_length ct_refuse_bad_length), sl_refuse_bad_length⟩)
    (c_refuse_bad_length : PySem.W.codeIn K cd_refuse_bad_length "refuse_bad_length" = true)
    (p_refuse_bad_length : PySem.W.keepIn K (.ref f_refuse_bad_length) = true)
    (a_refuse_bad_keepers : PySem.W.nsIn K mainGlobals "refuse_bad_keepers" = some (some (.ref f_refuse_bad_keepers)))
    (l_refuse_bad_keepers : K.lookup f_refuse_bad_keepers = some ⟨oc_refuse_bad_keepers, od_refuse_bad_keepers, .func (PySem.W.fnOf "refuse_bad_keepers" "refuse_bad_keepers" (defArgs s_refuse_bad_keepers) (defBody s_refuse_bad_keepers) (defScope s_refuse_bad_keepers) .none kV_refuse_bad_keepers dc_refuse_bad_keepers pm_refuse_bad_keepers an_refuse_bad_keepers cd_refuse_bad_keepers ct_refuse_bad_keepers), sl_refuse_bad_keepers⟩)
    (c_refuse_bad_keepers : PySem.W.codeIn K cd_refuse_bad_keepers "refuse_bad_keepers" = true)
    (p_refuse_bad_keepers : PySem.W.keepIn K (.ref f_refuse_bad_keepers) = true)
    (a_Terms_init : PySem.W.findIn K (.ref Terms) "__init__" = some (some (.ref f_Terms_init)))
    (i_Terms_init : PySem.W.isFn K (.ref f_Terms_init) = true)
    (l_Terms_init : K.lookup f_Terms_init = some ⟨oc_Terms_init, od_Terms_init, .func (PySem.W.fnOf "__init__" "Terms.__init__" (defArgs s_Terms_init) (defBody s_Terms_init) (defScope s_Terms_init) .none kV_Terms_init dc_Terms_init pm_Terms_init an_Terms_init cd_Terms_init ct_Terms_init), sl_Terms_init⟩)
    (c_Terms_init : PySem.W.codeIn K cd_Terms_init "Terms.__init__" = true)
    (p_Terms_init : PySem.W.keepIn K (.ref f_Terms_init) = true)
    (a_Terms_ticks : PySem.W.findIn K (.ref Terms) "ticks" = some (some (.ref f_Terms_ticks)))
    (i_Terms_ticks : PySem.W.isFn K (.ref f_Terms_ticks) = true)
    (l_Terms_ticks : K.lookup f_Terms_ticks = some ⟨oc_Terms_ticks, od_Terms_ticks, .func (PySem.W.fnOf "ticks" "Terms.ticks" (defArgs s_Terms_ticks) (defBody s_Terms_ticks) (defScope s_Terms_ticks) .none kV_Terms_ticks dc_Terms_ticks pm_Terms_ticks an_Terms_ticks cd_Terms_ticks ct_Terms_ticks), sl_Terms_ticks⟩)
    (c_Terms_ticks : PySem.W.codeIn K cd_Terms_ticks "Terms.ticks" = true)
    (p_Terms_ticks : PySem.W.keepIn K (.ref f_Terms_ticks) = true)
    (a_Terms_wait : PySem.W.findIn K (.ref Terms) "wait" = some (some (.ref f_Terms_wait)))
    (i_Terms_wait : PySem.W.isFn K (.ref f_Terms_wait) = true)
    (l_Terms_wait : K.lookup f_Terms_wait = some ⟨oc_Terms_wait, od_Terms_wait, .func (PySem.W.fnOf "wait" "Terms.wait" (defArgs s_Terms_wait) (defBody s_Terms_wait) (defScope s_Terms_wait) .none kV_Terms_wait dc_Terms_wait pm_Terms_wait an_Terms_wait cd_Terms_wait ct_Terms_wait), sl_Terms_wait⟩)
    (c_Terms_wait : PySem.W.codeIn K cd_Terms_wait "Terms.wait" = true)
    (p_Terms_wait : PySem.W.keepIn K (.ref f_Terms_wait) = true)
    (a_Terms_most : PySem.W.findIn K (.ref Terms) "most" = some (some (.ref f_Terms_most)))
    (i_Terms_most : PySem.W.isFn K (.ref f_Terms_most) = true)
    (l_Terms_most : K.lookup f_Terms_most = some ⟨oc_Terms_most, od_Terms_most, .func (PySem.W.fnOf "most" "Terms.most" (defArgs s_Terms_most) (defBody s_Terms_most) (defScope s_Terms_most) .none kV_Terms_most dc_Terms_most pm_Terms_most an_Terms_most cd_Terms_most ct_Terms_most), sl_Terms_most⟩)
    (c_Terms_most : PySem.W.codeIn K cd_Terms_most "Terms.most" = true)
    (p_Terms_most : PySem.W.keepIn K (.ref f_Terms_most) = true)
    (a_law_cell : PySem.W.nsIn K mainGlobals "_law_cell" = some (some (.ref f_law_cell)))
    (l_law_cell : K.lookup f_law_cell = some ⟨oc_law_cell, od_law_cell, .func (PySem.W.fnOf "_law_cell" "_law_cell" (defArgs s_law_cell) (defBody s_law_cell) (defScope s_law_cell) .none kV_law_cell dc_law_cell pm_law_cell an_law_cell cd_law_cell ct_law_cell), sl_law_cell⟩)
    (c_law_cell : PySem.W.codeIn K cd_law_cell "_law_cell" = true)
    (p_law_cell : PySem.W.keepIn K (.ref f_law_cell) = true)
    (a_law_mix : PySem.W.nsIn K mainGlobals "_law_mix" = some (some (.ref f_law_mix)))
    (l_law_mix : K.lookup f_law_mix = some ⟨oc_law_mix, od_law_mix, .func (PySem.W.fnOf "_law_mix" "_law_mix" (defArgs s_law_mix) (defBody s_law_mix) (defScope s_law_mix) .none kV_law_mix dc_law_mix pm_law_mix an_law_mix cd_law_mix ct_law_mix), sl_law_mix⟩)
    (c_law_mix : PySem.W.codeIn K cd_law_mix "_law_mix" = true)
    (p_law_mix : PySem.W.keepIn K (.ref f_law_mix) = true)
    (a_law_terms : PySem.W.nsIn K mainGlobals "_law_terms" = some (some (.ref f_law_terms)))
    (l_law_terms : K.lookup f_law_terms = some ⟨oc_law_terms, od_law_terms, .func (PySem.W.fnOf "_law_terms" "_law_terms" (defArgs s_law_terms) (defBody s_law_terms) (defScope s_law_terms) .none kV_law_terms dc_law_terms pm_law_terms an_law_terms cd_law_terms ct_law_terms), sl_law_terms⟩)
    (c_law_terms : PySem.W.codeIn K cd_law_terms "_law_terms" = true)
    (p_law_terms : PySem.W.keepIn K (.ref f_law_terms) = true)
    (a_law_wait : PySem.W.nsIn K mainGlobals "_law_wait" = some (some (.ref f_law_wait)))
    (l_law_wait : K.lookup f_law_wait = some ⟨oc_law_wait, od_law_wait, .func (PySem.W.fnOf "_law_wait" "_law_wait" (defArgs s_law_wait) (defBody s_law_wait) (defScope s_law_wait) .none kV_law_wait dc_law_wait pm_law_wait an_law_wait cd_law_wait ct_law_wait), sl_law_wait⟩)
    (c_law_wait : PySem.W.codeIn K cd_law_wait "_law_wait" = true)
    (p_law_wait : PySem.W.keepIn K (.ref f_law_wait) = true)
    (a_law_gets : PySem.W.nsIn K mainGlobals "_law_gets" = some (some (.ref f_law_gets)))
    (l_law_gets : K.lookup f_law_gets = some ⟨oc_law_gets, od_law_gets, .func (PySem.W.fnOf "_law_gets" "_law_gets" (defArgs s_law_gets) (defBody s_law_gets) (defScope s_law_gets) .none kV_law_gets dc_law_gets pm_law_gets an_law_gets cd_law_gets ct_law_gets), sl_law_gets⟩)
    (c_law_gets : PySem.W.codeIn K cd_law_gets "_law_gets" = true)
    (p_law_gets : PySem.W.keepIn K (.ref f_law_gets) = true)
    (a_law : PySem.W.nsIn K mainGlobals "law" = some (some (.ref f_law)))
    (l_law : K.lookup f_law = some ⟨oc_law, od_law, .func (PySem.W.fnOf "law" "law" (defArgs s_law) (defBody s_law) (defScope s_law) .none kV_law dc_law pm_law an_law cd_law ct_law), sl_law⟩)
    (c_law : PySem.W.codeIn K cd_law "law" = true)
    (p_law : PySem.W.keepIn K (.ref f_law) = true)
    (pg_Keeper : PySem.W.plainGet K Keeper Str.empty = true)
    (hd_Keeper : PySem.W.hasDictIn K Keeper = true)
    (po_Keeper : PySem.W.plainOver K Keeper = true)
    (sa_Keeper : PySem.W.findIn K (.ref Keeper) "__setattr__" = some (some (.builtin "object.__setattr__")))
    (mk_Keeper : PySem.W.makesIn K Keeper = true)
    (kc_Keeper : PySem.W.keepIn K (.ref Keeper) = true)
    (nf_Keeper_pause : PySem.W.findIn K (.ref Keeper) "pause" = some none)
    (nf_Keeper_latest : PySem.W.findIn K (.ref Keeper) "latest" = some none)
    (nf_Keeper_name : PySem.W.findIn K (.ref Keeper) "name" = some none)
    (nf_Keeper_number : PySem.W.findIn K (.ref Keeper) "number" = some none)
    (nf_Keeper_over : PySem.W.findIn K (.ref Keeper) "over" = some none)
    (pg_Holder : PySem.W.plainGet K Holder Str.empty = true)
    (hd_Holder : PySem.W.hasDictIn K Holder = true)
    (po_Holder : PySem.W.plainOver K Holder = true)
    (sa_Holder : PySem.W.findIn K (.ref Holder) "__setattr__" = some (some (.builtin "object.__setattr__")))
    (mk_Holder : PySem.W.makesIn K Holder = true)
    (kc_Holder : PySem.W.keepIn K (.ref Holder) = true)
    (nf_Holder_length : PySem.W.findIn K (.ref Holder) "length" = some none)
    (nf_Holder_needed : PySem.W.findIn K (.ref Holder) "needed" = some none)
    (nf_Holder_name : PySem.W.findIn K (.ref Holder) "name" = some none)
    (nf_Holder_life : PySem.W.findIn K (.ref Holder) "life" = some none)
    (nf_Holder_latest : PySem.W.findIn K (.ref Holder) "latest" = some none)
    (nf_Holder_told : PySem.W.findIn K (.ref Holder) "told" = some none)
    (nf_Holder_asks : PySem.W.findIn K (.ref Holder) "asks" = some none)
    (nf_Holder_ends : PySem.W.findIn K (.ref Holder) "ends" = some none)
    (pg_Terms : PySem.W.plainGet K Terms Str.empty = true)
    (hd_Terms : PySem.W.hasDictIn K Terms = true)
    (po_Terms : PySem.W.plainOver K Terms = true)
    (sa_Terms : PySem.W.findIn K (.ref Terms) "__setattr__" = some (some (.builtin "object.__setattr__")))
    (mk_Terms : PySem.W.makesIn K Terms = true)
    (kc_Terms : PySem.W.keepIn K (.ref Terms) = true)
    (nf_Terms_low : PySem.W.findIn K (.ref Terms) "low" = some none)
    (nf_Terms_high : PySem.W.findIn K (.ref Terms) "high" = some none)
    (nf_Terms_length : PySem.W.findIn K (.ref Terms) "length" = some none)
    (nf_Terms_keepers : PySem.W.findIn K (.ref Terms) "keepers" = some none)
    (n_LeaseError : PySem.W.nsIn K mainGlobals "LeaseError" = some (some (.ref LeaseError)))
    (x_LeaseError : PySem.W.excIn K LeaseError [.type "ValueError", .type "Exception", .type "BaseException", .type "object"] "ValueError.__new__" = true)
    (n_BadTerms : PySem.W.nsIn K mainGlobals "BadTerms" = some (some (.ref BadTerms)))
    (x_BadTerms : PySem.W.excIn K BadTerms [.type "ValueError", .type "Exception", .type "BaseException", .type "object"] "ValueError.__new__" = true)
    (n_Back : PySem.W.nsIn K mainGlobals "Back" = some (some (.ref Back)))
    (x_Back : PySem.W.excIn K Back [.type "ValueError", .type "Exception", .type "BaseException", .type "object"] "ValueError.__new__" = true)
    (n_NoKeeper : PySem.W.nsIn K mainGlobals "NoKeeper" = some (some (.ref NoKeeper)))
    (x_NoKeeper : PySem.W.excIn K NoKeeper [.type "ValueError", .type "Exception", .type "BaseException", .type "object"] "ValueError.__new__" = true)
    (n_NotAsked : PySem.W.nsIn K mainGlobals "NotAsked" = some (some (.ref NotAsked)))
    (x_NotAsked : PySem.W.excIn K NotAsked [.type "ValueError", .type "Exception", .type "BaseException", .type "object"] "ValueError.__new__" = true)
    (e1_BadTerms : PySem.W.clsIn K BadTerms = some cd_BadTerms)
    (e2_BadTerms : PySem.W.findIn K (.ref BadTerms) "__getattribute__" = some (some (.builtin "BaseException.__getattribute__")))
    (e3_BadTerms : PySem.W.findIn K (.ref BadTerms) "__getattr__" = some none)
    (e4_BadTerms : PySem.W.findIn K (.ref BadTerms) "__class__" = some (some (.builtin "object.__class__")))
    (e5_BadTerms : PySem.W.specialIn K (.builtin "object.__class__") "__get__" = some (some (.builtin "getset_descriptor.__get__")))
    (e6_BadTerms : PySem.W.takesIn K (.builtin "object.__class__") = some true)
    (e7_BadTerms : PySem.W.mroIn K BadTerms (.type "object") = some true)
    (e8_BadTerms : PySem.W.mroIn K BadTerms (.type "BaseException") = some true)
    (r_BadTerms_LeaseError : PySem.W.exmOne K (.ref BadTerms) (.ref LeaseError) = some true)
    (i_BadTerms_BadTerms : PySem.W.kitOne K (.ref BadTerms) (.ref BadTerms) = some true)
    (i_BadTerms_Back : PySem.W.kitOne K (.ref BadTerms) (.ref Back) = some false)
    (i_BadTerms_NoKeeper : PySem.W.kitOne K (.ref BadTerms) (.ref NoKeeper) = some false)
    (i_BadTerms_NotAsked : PySem.W.kitOne K (.ref BadTerms) (.ref NotAsked) = some false)
    (i_BadTerms_ValueError : PySem.W.kitOne K (.ref BadTerms) (.type "ValueError") = some true)
    (e1_Back : PySem.W.clsIn K Back = some cd_Back)
    (e2_Back : PySem.W.findIn K (.ref Back) "__getattribute__" = some (some (.builtin "BaseException.__getattribute__")))
    (e3_Back : PySem.W.findIn K (.ref Back) "__getattr__" = some none)
    (e4_Back : PySem.W.findIn K (.ref Back) "__class__" = some (some (.builtin "object.__class__")))
    (e5_Back : PySem.W.specialIn K (.builtin "object.__class__") "__get__" = some (some (.builtin "getset_descriptor.__get__")))
    (e6_Back : PySem.W.takesIn K (.builtin "object.__class__") = some true)
    (e7_Back : PySem.W.mroIn K Back (.type "object") = some true)
    (e8_Back : PySem.W.mroIn K Back (.type "BaseException") = some true)
    (r_Back_LeaseError : PySem.W.exmOne K (.ref Back) (.ref LeaseError) = some true)
    (i_Back_BadTerms : PySem.W.kitOne K (.ref Back) (.ref BadTerms) = some false)
    (i_Back_Back : PySem.W.kitOne K (.ref Back) (.ref Back) = some true)
    (i_Back_NoKeeper : PySem.W.kitOne K (.ref Back) (.ref NoKeeper) = some false)
    (i_Back_NotAsked : PySem.W.kitOne K (.ref Back) (.ref NotAsked) = some false)
    (i_Back_ValueError : PySem.W.kitOne K (.ref Back) (.type "ValueError") = some true)
    (e1_NoKeeper : PySem.W.clsIn K NoKeeper = some cd_NoKeeper)
    (e2_NoKeeper : PySem.W.findIn K (.ref NoKeeper) "__getattribute__" = some (some (.builtin "BaseException.__getattribute__")))
    (e3_NoKeeper : PySem.W.findIn K (.ref NoKeeper) "__getattr__" = some none)
    (e4_NoKeeper : PySem.W.findIn K (.ref NoKeeper) "__class__" = some (some (.builtin "object.__class__")))
    (e5_NoKeeper : PySem.W.specialIn K (.builtin "object.__class__") "__get__" = some (some (.builtin "getset_descriptor.__get__")))
    (e6_NoKeeper : PySem.W.takesIn K (.builtin "object.__class__") = some true)
    (e7_NoKeeper : PySem.W.mroIn K NoKeeper (.type "object") = some true)
    (e8_NoKeeper : PySem.W.mroIn K NoKeeper (.type "BaseException") = some true)
    (r_NoKeeper_LeaseError : PySem.W.exmOne K (.ref NoKeeper) (.ref LeaseError) = some true)
    (i_NoKeeper_BadTerms : PySem.W.kitOne K (.ref NoKeeper) (.ref BadTerms) = some false)
    (i_NoKeeper_Back : PySem.W.kitOne K (.ref NoKeeper) (.ref Back) = some false)
    (i_NoKeeper_NoKeeper : PySem.W.kitOne K (.ref NoKeeper) (.ref NoKeeper) = some true)
    (i_NoKeeper_NotAsked : PySem.W.kitOne K (.ref NoKeeper) (.ref NotAsked) = some false)
    (i_NoKeeper_ValueError : PySem.W.kitOne K (.ref NoKeeper) (.type "ValueError") = some true)
    (e1_NotAsked : PySem.W.clsIn K NotAsked = some cd_NotAsked)
    (e2_NotAsked : PySem.W.findIn K (.ref NotAsked) "__getattribute__" = some (some (.builtin "BaseException.__getattribute__")))
    (e3_NotAsked : PySem.W.findIn K (.ref NotAsked) "__getattr__" = some none)
    (e4_NotAsked : PySem.W.findIn K (.ref NotAsked) "__class__" = some (some (.builtin "object.__class__")))
    (e5_NotAsked : PySem.W.specialIn K (.builtin "object.__class__") "__get__" = some (some (.builtin "getset_descriptor.__get__")))
    (e6_NotAsked : PySem.W.takesIn K (.builtin "object.__class__") = some true)
    (e7_NotAsked : PySem.W.mroIn K NotAsked (.type "object") = some true)
    (e8_NotAsked : PySem.W.mroIn K NotAsked (.type "BaseException") = some true)
    (r_NotAsked_LeaseError : PySem.W.exmOne K (.ref NotAsked) (.ref LeaseError) = some true)
    (i_NotAsked_BadTerms : PySem.W.kitOne K (.ref NotAsked) (.ref BadTerms) = some false)
    (i_NotAsked_Back : PySem.W.kitOne K (.ref NotAsked) (.ref Back) = some false)
    (i_NotAsked_NoKeeper : PySem.W.kitOne K (.ref NotAsked) (.ref NoKeeper) = some false)
    (i_NotAsked_NotAsked : PySem.W.kitOne K (.ref NotAsked) (.ref NotAsked) = some true)
    (i_NotAsked_ValueError : PySem.W.kitOne K (.ref NotAsked) (.type "ValueError") = some true)
    (m_MOST_STEP : PySem.W.nsIn K mainGlobals "MOST_STEP" = some (some (.int 1000 t_MOST_STEP)))
    (m_MOST_LENGTH : PySem.W.nsIn K mainGlobals "MOST_LENGTH" = some (some (.int 1000000 t_MOST_LENGTH)))
    (m_MOST_KEEPERS : PySem.W.nsIn K mainGlobals "MOST_KEEPERS" = some (some (.int 9 t_MOST_KEEPERS)))
    (z_len : PySem.W.nsIn K mainGlobals "len" = some none)
    (z_list : PySem.W.nsIn K mainGlobals "list" = some none)
    (z_max : PySem.W.nsIn K mainGlobals "max" = some none)
    (z_range : PySem.W.nsIn K mainGlobals "range" = some none)
    (z_sorted : PySem.W.nsIn K mainGlobals "sorted" = some none)
    : ∃ t : Adr, Txt K mg t := by
  have F_gone_on := fun_mk (st := s_gone_on) l_gone_on c_gone_on p_gone_on
  have b_gone_on := F_gone_on.binds (ps := ["latest", "clock"]) fun _ _ _ _ _ _ us hl => match us, hl with | [_, _], _ => rfl
  have F_Keeper_init := fun_mk (st := s_Keeper_init) l_Keeper_init c_Keeper_init p_Keeper_init
  have b_Keeper_init := F_Keeper_init.binds (ps := ["self", "terms", "clock"]) fun _ _ _ _ _ _ us hl => match us, hl with | [_, _, _], _ => rfl
  have F_Keeper_asked := fun_mk (st := s_Keeper_asked) l_Keeper_asked c_Keeper_asked p_Keeper_asked
  have b_Keeper_asked := F_Keeper_asked.binds (ps := ["self", "clock", "name", "number"]) fun _ _ _ _ _ _ us hl => match us, hl with | [_, _, _, _], _ => rfl
  have F_Keeper_freed := fun_mk (st := s_Keeper_freed) l_Keeper_freed c_Keeper_freed p_Keeper_freed
  have b_Keeper_freed := F_Keeper_freed.binds (ps := ["self", "clock", "name", "number"]) fun _ _ _ _ _ _ us hl => match us, hl with | [_, _, _, _], _ => rfl
  have F_Keeper_let_to := fun_mk (st := s_Keeper_let_to) l_Keeper_let_to c_Keeper_let_to p_Keeper_let_to
  have b_Keeper_let_to := F_Keeper_let_to.binds (ps := ["self", "clock"]) fun _ _ _ _ _ _ us hl => match us, hl with | [_, _], _ => rfl
  have F_Holder_init := fun_mk (st := s_Holder_init) l_Holder_init c_Holder_init p_Holder_init
  have b_Holder_init := F_Holder_init.binds (ps := ["self", "terms", "name", "life", "clock"]) fun _ _ _ _ _ _ us hl => match us, hl with | [_, _, _, _, _], _ => rfl
  have F_Holder_ask := fun_mk (st := s_Holder_ask) l_Holder_ask c_Holder_ask p_Holder_ask
  have b_Holder_ask := F_Holder_ask.binds (ps := ["self", "clock"]) fun _ _ _ _ _ _ us hl => match us, hl with | [_, _], _ => rfl
  have F_Holder_forget_over := fun_mk (st := s_Holder_forget_over) l_Holder_forget_over c_Holder_forget_over p_Holder_forget_over
  have b_Holder_forget_over := F_Holder_forget_over.binds (ps := ["self", "clock"]) fun _ _ _ _ _ _ us hl => match us, hl with | [_, _], _ => rfl
  have F_Holder_hear := fun_mk (st := s_Holder_hear) l_Holder_hear c_Holder_hear p_Holder_hear
  have b_Holder_hear := F_Holder_hear.binds (ps := ["self", "clock", "keeper", "number"]) fun _ _ _ _ _ _ us hl => match us, hl with | [_, _, _, _], _ => rfl
  have F_Holder_holds := fun_mk (st := s_Holder_holds) l_Holder_holds c_Holder_holds p_Holder_holds
  have b_Holder_holds := F_Holder_holds.binds (ps := ["self", "clock"]) fun _ _ _ _ _ _ us hl => match us, hl with | [_, _], _ => rfl
  have F_Holder_until := fun_mk (st := s_Holder_until) l_Holder_until c_Holder_until p_Holder_until
  have b_Holder_until := F_Holder_until.binds (ps := ["self", "clock"]) fun _ _ _ _ _ _ us hl => match us, hl with | [_, _], _ => rfl
  have F_Holder_free := fun_mk (st := s_Holder_free) l_Holder_free c_Holder_free p_Holder_free
  have b_Holder_free := F_Holder_free.binds (ps := ["self", "clock"]) fun _ _ _ _ _ _ us hl => match us, hl with | [_, _], _ => rfl
  have F_refuse_bad_steps := fun_mk (st := s_refuse_bad_steps) l_refuse_bad_steps c_refuse_bad_steps p_refuse_bad_steps
  have b_refuse_bad_steps := F_refuse_bad_steps.binds (ps := ["low", "high"]) fun _ _ _ _ _ _ us hl => match us, hl with | [_, _], _ => rfl
  have F_refuse_bad_length := fun_mk (st := s_refuse_bad_length) l_refuse_bad_length c_refuse_bad_length p_refuse_bad_length
  have b_refuse_bad_length := F_refuse_bad_length.binds (ps := ["length"]) fun _ _ _ _ _ _ us hl => match us, hl with | [_], _ => rfl
  have F_refuse_bad_keepers := fun_mk (st := s_refuse_bad_keepers) l_refuse_bad_keepers c_refuse_bad_keepers p_refuse_bad_keepers
  have b_refuse_bad_keepers := F_refuse_bad_keepers.binds (ps := ["keepers"]) fun _ _ _ _ _ _ us hl => match us, hl with | [_], _ => rfl
  have F_Terms_init := fun_mk (st := s_Terms_init) l_Terms_init c_Terms_init p_Terms_init
  have b_Terms_init := F_Terms_init.binds (ps := ["self", "low", "high", "length", "keepers"]) fun _ _ _ _ _ _ us hl => match us, hl with | [_, _, _, _, _], _ => rfl
  have F_Terms_ticks := fun_mk (st := s_Terms_ticks) l_Terms_ticks c_Terms_ticks p_Terms_ticks
  have b_Terms_ticks := F_Terms_ticks.binds (ps := ["self"]) fun _ _ _ _ _ _ us hl => match us, hl with | [_], _ => rfl
  have F_Terms_wait := fun_mk (st := s_Terms_wait) l_Terms_wait c_Terms_wait p_Terms_wait
  have b_Terms_wait := F_Terms_wait.binds (ps := ["self"]) fun _ _ _ _ _ _ us hl => match us, hl with | [_], _ => rfl
  have F_Terms_most := fun_mk (st := s_Terms_most) l_Terms_most c_Terms_most p_Terms_most
  have b_Terms_most := F_Terms_most.binds (ps := ["self"]) fun _ _ _ _ _ _ us hl => match us, hl with | [_], _ => rfl
  have F_law_cell := fun_mk (st := s_law_cell) l_law_cell c_law_cell p_law_cell
  have b_law_cell := F_law_cell.binds (ps := ["_law_script", "_law_k"]) fun _ _ _ _ _ _ us hl => match us, hl with | [_, _], _ => rfl
  have F_law_mix := fun_mk (st := s_law_mix) l_law_mix c_law_mix p_law_mix
  have b_law_mix := F_law_mix.binds (ps := ["_law_script", "_law_k"]) fun _ _ _ _ _ _ us hl => match us, hl with | [_, _], _ => rfl
  have F_law_terms := fun_mk (st := s_law_terms) l_law_terms c_law_terms p_law_terms
  have b_law_terms := F_law_terms.binds (ps := ["_law_script", "_law_k"]) fun _ _ _ _ _ _ us hl => match us, hl with | [_, _], _ => rfl
  have F_law_wait := fun_mk (st := s_law_wait) l_law_wait c_law_wait p_law_wait
  have b_law_wait := F_law_wait.binds (ps := ["_law_terms_here"]) fun _ _ _ _ _ _ us hl => match us, hl with | [_], _ => rfl
  have F_law_gets := fun_mk (st := s_law_gets) l_law_gets c_law_gets p_law_gets
  have b_law_gets := F_law_gets.binds (ps := ["_law_keepers", "_law_clock", "_law_holder", "_law_name", "_law_reading"]) fun _ _ _ _ _ _ us hl => match us, hl with | [_, _, _, _, _], _ => rfl
  have F_law := fun_mk (st := s_law) l_law c_law p_law
  have b_law := F_law.binds (ps := ["_law_script"]) fun _ _ _ _ _ _ us hl => match us, hl with | [_], _ => rfl
  refine ⟨{
    f_gone_on := f_gone_on, d_gone_on := _, f_Keeper_init := f_Keeper_init, d_Keeper_init := _, f_Keeper_asked := f_Keeper_asked, d_Keeper_asked := _, f_Keeper_freed := f_Keeper_freed, d_Keeper_freed := _, f_Keeper_let_to := f_Keeper_let_to, d_Keeper_let_to := _, f_Holder_init := f_Holder_init, d_Holder_init := _, f_Holder_ask := f_Holder_ask, d_Holder_ask := _, f_Holder_forget_over := f_Holder_forget_over, d_Holder_forget_over := _, f_Holder_hear := f_Holder_hear, d_Holder_hear := _, f_Holder_holds := f_Holder_holds, d_Holder_holds := _, f_Holder_until := f_Holder_until, d_Holder_until := _, f_Holder_free := f_Holder_free, d_Holder_free := _, f_refuse_bad_steps := f_refuse_bad_steps, d_refuse_bad_steps := _, f_refuse_bad_length := f_refuse_bad_length, d_refuse_bad_length := _, f_refuse_bad_keepers := f_refuse_bad_keepers, d_refuse_bad_keepers := _, f_Terms_init := f_Terms_init, d_Terms_init := _, f_Terms_ticks := f_Terms_ticks, d_Terms_ticks := _, f_Terms_wait := f_Terms_wait, d_Terms_wait := _, f_Terms_most := f_Terms_most, d_Terms_most := _, f_law_cell := f_law_cell, d_law_cell := _, f_law_mix := f_law_mix, d_law_mix := _, f_law_terms := f_law_terms, d_law_terms := _, f_law_wait := f_law_wait, d_law_wait := _, f_law_gets := f_law_gets, d_law_gets := _, f_law := f_law, d_law := _, Keeper := Keeper, Holder := Holder, Terms := Terms, LeaseError := LeaseError, BadTerms := BadTerms, Back := Back, NoKeeper := NoKeeper, NotAsked := NotAsked }, {
    F_gone_on := F_gone_on, b_gone_on := b_gone_on,
    m_gone_on := PySem.W.mg_of X G a_gone_on,
    F_Keeper_init := F_Keeper_init, b_Keeper_init := b_Keeper_init,
    F_Keeper_asked := F_Keeper_asked, b_Keeper_asked := b_Keeper_asked,
    h_Keeper_asked := ⟨a_Keeper_asked, i_Keeper_asked, p_Keeper_asked⟩,
    F_Keeper_freed := F_Keeper_freed, b_Keeper_freed := b_Keeper_freed,
    h_Keeper_freed := ⟨a_Keeper_freed, i_Keeper_freed, p_Keeper_freed⟩,
    F_Keeper_let_to := F_Keeper_let_to, b_Keeper_let_to := b_Keeper_let_to,
    h_Keeper_let_to := ⟨a_Keeper_let_to, i_Keeper_let_to, p_Keeper_let_to⟩,
    F_Holder_init := F_Holder_init, b_Holder_init := b_Holder_init,
    F_Holder_ask := F_Holder_ask, b_Holder_ask := b_Holder_ask,
    h_Holder_ask := ⟨a_Holder_ask, i_Holder_ask, p_Holder_ask⟩,
    F_Holder_forget_over := F_Holder_forget_over, b_Holder_forget_over := b_Holder_forget_over,
    h_Holder_forget_over := ⟨a_Holder_forget_over, i_Holder_forget_over, p_Holder_forget_over⟩,
    F_Holder_hear := F_Holder_hear, b_Holder_hear := b_Holder_hear,
    h_Holder_hear := ⟨a_Holder_hear, i_Holder_hear, p_Holder_hear⟩,
    F_Holder_holds := F_Holder_holds, b_Holder_holds := b_Holder_holds,
    h_Holder_holds := ⟨a_Holder_holds, i_Holder_holds, p_Holder_holds⟩,
    F_Holder_until := F_Holder_until, b_Holder_until := b_Holder_until,
    h_Holder_until := ⟨a_Holder_until, i_Holder_until, p_Holder_until⟩,
    F_Holder_free := F_Holder_free, b_Holder_free := b_Holder_free,
    h_Holder_free := ⟨a_Holder_free, i_Holder_free, p_Holder_free⟩,
    F_refuse_bad_steps := F_refuse_bad_steps, b_refuse_bad_steps := b_refuse_bad_steps,
    m_refuse_bad_steps := PySem.W.mg_of X G a_refuse_bad_steps,
    F_refuse_bad_length := F_refuse_bad_length, b_refuse_bad_length := b_refuse_bad_length,
    m_refuse_bad_length := PySem.W.mg_of X G a_refuse_bad_length,
    F_refuse_bad_keepers := F_refuse_bad_keepers, b_refuse_bad_keepers := b_refuse_bad_keepers,
    m_refuse_bad_keepers := PySem.W.mg_of X G a_refuse_bad_keepers,
    F_Terms_init := F_Terms_init, b_Terms_init := b_Terms_init,
    F_Terms_ticks := F_Terms_ticks, b_Terms_ticks := b_Terms_ticks,
    h_Terms_ticks := ⟨a_Terms_ticks, i_Terms_ticks, p_Terms_ticks⟩,
    F_Terms_wait := F_Terms_wait, b_Terms_wait := b_Terms_wait,
    h_Terms_wait := ⟨a_Terms_wait, i_Terms_wait, p_Terms_wait⟩,
    F_Terms_most := F_Terms_most, b_Terms_most := b_Terms_most,
    h_Terms_most := ⟨a_Terms_most, i_Terms_most, p_Terms_most⟩,
    F_law_cell := F_law_cell, b_law_cell := b_law_cell,
    m_law_cell := PySem.W.mg_of X G a_law_cell,
    F_law_mix := F_law_mix, b_law_mix := b_law_mix,
    m_law_mix := PySem.W.mg_of X G a_law_mix,
    F_law_terms := F_law_terms, b_law_terms := b_law_terms,
    m_law_terms := PySem.W.mg_of X G a_law_terms,
    F_law_wait := F_law_wait, b_law_wait := b_law_wait,
    m_law_wait := PySem.W.mg_of X G a_law_wait,
    F_law_gets := F_law_gets, b_law_gets := b_law_gets,
    m_law_gets := PySem.W.mg_of X G a_law_gets,
    F_law := F_law, b_law := b_law,
    m_law := PySem.W.mg_of X G a_law,
    m_Keeper := PySem.W.mg_of X G a_Keeper, cl_Keeper := ⟨pg_Keeper, hd_Keeper, po_Keeper, sa_Keeper⟩,
    k_Keeper := ⟨mk_Keeper, a_Keeper_init, i_Keeper_init, kc_Keeper⟩,
    nf_Keeper_pause := nf_Keeper_pause,
    nf_Keeper_latest := nf_Keeper_latest,
    nf_Keeper_name := nf_Keeper_name,
    nf_Keeper_number := nf_Keeper_number,
    nf_Keeper_over := nf_Keeper_over,
    m_Holder := PySem.W.mg_of X G a_Holder, cl_Holder := ⟨pg_Holder, hd_Holder, po_Holder, sa_Holder⟩,
    k_Holder := ⟨mk_Holder, a_Holder_init, i_Holder_init, kc_Holder⟩,
    nf_Holder_length := nf_Holder_length,
    nf_Holder_needed := nf_Holder_needed,
    nf_Holder_name := nf_Holder_name,
    nf_Holder_life := nf_Holder_life,
    nf_Holder_latest := nf_Holder_latest,
    nf_Holder_told := nf_Holder_told,
    nf_Holder_asks := nf_Holder_asks,
    nf_Holder_ends := nf_Holder_ends,
    m_Terms := PySem.W.mg_of X G a_Terms, cl_Terms := ⟨pg_Terms, hd_Terms, po_Terms, sa_Terms⟩,
    k_Terms := ⟨mk_Terms, a_Terms_init, i_Terms_init, kc_Terms⟩,
    nf_Terms_low := nf_Terms_low,
    nf_Terms_high := nf_Terms_high,
    nf_Terms_length := nf_Terms_length,
    nf_Terms_keepers := nf_Terms_keepers,
    m_LeaseError := PySem.W.mg_of X G n_LeaseError, n_LeaseError := n_LeaseError, x_LeaseError := x_LeaseError,
    m_BadTerms := PySem.W.mg_of X G n_BadTerms, n_BadTerms := n_BadTerms, x_BadTerms := x_BadTerms,
    m_Back := PySem.W.mg_of X G n_Back, n_Back := n_Back, x_Back := x_Back,
    m_NoKeeper := PySem.W.mg_of X G n_NoKeeper, n_NoKeeper := n_NoKeeper, x_NoKeeper := x_NoKeeper,
    m_NotAsked := PySem.W.mg_of X G n_NotAsked, n_NotAsked := n_NotAsked, x_NotAsked := x_NotAsked,
    e_BadTerms := ⟨⟨_, e1_BadTerms⟩, e2_BadTerms, e3_BadTerms, e4_BadTerms, e5_BadTerms, e6_BadTerms, e7_BadTerms, e8_BadTerms⟩,
    r_BadTerms_LeaseError := r_BadTerms_LeaseError,
    i_BadTerms_BadTerms := i_BadTerms_BadTerms,
    i_BadTerms_Back := i_BadTerms_Back,
    i_BadTerms_NoKeeper := i_BadTerms_NoKeeper,
    i_BadTerms_NotAsked := i_BadTerms_NotAsked,
    i_BadTerms_ValueError := i_BadTerms_ValueError,
    e_Back := ⟨⟨_, e1_Back⟩, e2_Back, e3_Back, e4_Back, e5_Back, e6_Back, e7_Back, e8_Back⟩,
    r_Back_LeaseError := r_Back_LeaseError,
    i_Back_BadTerms := i_Back_BadTerms,
    i_Back_Back := i_Back_Back,
    i_Back_NoKeeper := i_Back_NoKeeper,
    i_Back_NotAsked := i_Back_NotAsked,
    i_Back_ValueError := i_Back_ValueError,
    e_NoKeeper := ⟨⟨_, e1_NoKeeper⟩, e2_NoKeeper, e3_NoKeeper, e4_NoKeeper, e5_NoKeeper, e6_NoKeeper, e7_NoKeeper, e8_NoKeeper⟩,
    r_NoKeeper_LeaseError := r_NoKeeper_LeaseError,
    i_NoKeeper_BadTerms := i_NoKeeper_BadTerms,
    i_NoKeeper_Back := i_NoKeeper_Back,
    i_NoKeeper_NoKeeper := i_NoKeeper_NoKeeper,
    i_NoKeeper_NotAsked := i_NoKeeper_NotAsked,
    i_NoKeeper_ValueError := i_NoKeeper_ValueError,
    e_NotAsked := ⟨⟨_, e1_NotAsked⟩, e2_NotAsked, e3_NotAsked, e4_NotAsked, e5_NotAsked, e6_NotAsked, e7_NotAsked, e8_NotAsked⟩,
    r_NotAsked_LeaseError := r_NotAsked_LeaseError,
    i_NotAsked_BadTerms := i_NotAsked_BadTerms,
    i_NotAsked_Back := i_NotAsked_Back,
    i_NotAsked_NoKeeper := i_NotAsked_NoKeeper,
    i_NotAsked_NotAsked := i_NotAsked_NotAsked,
    i_NotAsked_ValueError := i_NotAsked_ValueError,
    m_MOST_STEP := ⟨_, PySem.W.mg_of X G m_MOST_STEP⟩,
    m_MOST_LENGTH := ⟨_, PySem.W.mg_of X G m_MOST_LENGTH⟩,
    m_MOST_KEEPERS := ⟨_, PySem.W.mg_of X G m_MOST_KEEPERS⟩,
    z_len := PySem.W.mg_none_of X G z_len,
    z_list := PySem.W.mg_none_of X G z_list,
    z_max := PySem.W.mg_none_of X G z_max,
    z_range := PySem.W.mg_none_of X G z_range,
    z_sorted := PySem.W.mg_none_of X G z_sorted }⟩
end K11

set_option Elab.async false
set_option linter.all false
set_option maxRecDepth 100000
set_option maxHeartbeats 4000000
namespace K11
open PySem L2
open L2 renaming rEq_int → Y0, rNe_int → Y1, rNe_bl → Y2, rEq_str → Y3, rEq_noni → Y4, rNe_noni → Y5, tPairs → Y6, tDisp → Y7, tAsg → Y8, gName → Y9, tOp → Ya, tUn → Yb, tVar → Yc, tC → Yd, rI → Ye, rI0 → Yf, rU → Yg, tCall → Yh, tCons → Yi, tNil → Yj, tRet → Yk, tRetN → Yl, tDrop → Ym, tNext → Yn, tIfS → Yo, tTest → Yp, tChain → Yq, tChain3 → Yr, tCB → Ys, tNot → Yt, tAnd → Yu, tOr → Yv, tAndV → Yw, tOrV → Yx, tNotV → Yy, tIf → Yz, tB → Z0, tIsN → Z1, tNotN → Z2, tTup → Z3, tLst → Z4, tTru → Z5, xFld → Z6, xNotN → Z7, tAug → Z8, ipI → Z9, sFldAug_eq → Za, tDPop1 → Zb, tSortR → Zc, rEq_bl → Zd, rEq_inon → Ze, rNe_inon → Zf, xCall → Zg, xMake → Zh, xMeth → Zi, xIf → Zj, xSet → Zk, xExpr → Zl, xRet → Zm, xRaise → Zn, xRaise0 → Zo, tFld_eq → Zp, sFld_eq → Zq, tMeth_eq → Zr, tMake → Zs, tPar → Zt, tDGet_eq → Zu, sDPut_eq → Zv, tDIn_eq → Zw, tDNotIn_eq → Zx, tTrue → Zy, tComp → Zz, caps → V0, tBM → V1, cxOf_K → V2, start → V3
open _root_.List renaming map_cons → V4, map_nil → V5, length_cons → V6, length_nil → V7, replicate → V8, cons_append → Va, nil_append → Vb, append_nil → Vc, getElem?_cons_zero → Vd, getElem?_cons_succ → Ve, set_cons_zero → Vl, set_cons_succ → Vm
open _root_.Nat renaming sub_self → V9
open _root_.Option.some renaming injEq → Vf
open L2.V.int renaming injEq → Vi
open L2.V.bl renaming injEq → Vj
open L2.V.ref renaming injEq → Vk
open _root_.List.cons renaming injEq → Vo
open _root_.Bool renaming false_eq_true → Vu, not_true → Vv, not_false → Vw, not_eq_true' → Vx
theorem at_mod {ns : List Int} {k : Int} (hne : 0 < ns.length) : ∃ i, atI (ns.map V.int) (k % ((ns.map V.int).length : Int)) = some (.int i) := by
  have hl : (ns.map V.int).length = ns.length := List.length_map ..
  have h1 : 0 ≤ k % ((ns.map V.int).length : Int) := Int.emod_nonneg _ (by omega)
  have h2 : k % ((ns.map V.int).length : Int) < ((ns.map V.int).length : Int) := Int.emod_lt_of_pos _ (by omega)
  obtain ⟨j, hj⟩ : ∃ j : Nat, k % ((ns.map V.int).length : Int) = (j : Int) := ⟨_, (Int.toNat_of_nonneg h1).symm⟩
  have hlt : j < ns.length := by omega
  rw [hj]
  refine ⟨ns[j], atI_nat ?_⟩
  rw [List.getElem?_map, List.getElem?_eq_getElem hlt]
  rfl
def sp_law_cell (K : PySem.W.Frag) : Sp := fun vs H Q _ => ∃ (a : Addr) (ns : List Int) (k : Int), vs = [.ref a, .int k] ∧ SqL K H a (ns.map V.int) ∧ ∀ i, Q (.int i) H
def sp_law_mix (K : PySem.W.Frag) : Sp := fun vs H Q _ => ∃ (a : Addr) (ns : List Int) (k : Int), vs = [.ref a, .int k] ∧ SqL K H a (ns.map V.int) ∧ ∀ i, 0 ≤ i → i < 4294967231 → Q (.int i) H
def good (lo hi le ke : Int) : Prop := 1 ≤ lo ∧ hi ≤ 1000 ∧ lo ≤ hi ∧ 1 ≤ le ∧ le ≤ 1000000 ∧ 1 ≤ ke ∧ ke ≤ 9
instance (lo hi le ke : Int) : Decidable (good lo hi le ke) := by unfold good; infer_instance
/-- an int whose text may be written -/
def Small (i : Int) : Prop := -(2 ^ 62) < i ∧ i < 2 ^ 62
theorem Small.log {i : Int} (h : Small i) : i.natAbs.log2 < 1920 := by
  obtain ⟨h1, h2⟩ := h
  by_cases z : i.natAbs = 0
  · rw [z]
    decide
  · have e : i.natAbs < 2 ^ 62 := by omega
    have := (Nat.log2_lt z).mpr e
    omega
def sp_steps (BT : Addr) : Sp := fun vs H Q E => ∃ lo hi : Int, vs = [.int lo, .int hi] ∧ Small lo ∧ Small hi ∧ (1 ≤ lo ∧ hi ≤ 1000 ∧ lo ≤ hi → Q .non H) ∧ (¬ (1 ≤ lo ∧ hi ≤ 1000 ∧ lo ≤ hi) → E (.ref BT) none H)
def sp_range (BT : Addr) (m : Int) : Sp := fun vs H Q E => ∃ v : Int, vs = [.int v] ∧ Small v ∧ (1 ≤ v ∧ v ≤ m → Q .non H) ∧ (¬ (1 ≤ v ∧ v ≤ m) → E (.ref BT) none H)
abbrev terms (lo hi le ke : Int) : List (Str × V) := flds_Terms (.int lo) (.int hi) (.int le) (.int ke)
def sp_Terms_init (C BT : Addr) : Sp := fun vs H Q E => ∃ (p dx : Addr) (lo hi le ke : Int), vs = [.ref p, .int lo, .int hi, .int le, .int ke] ∧ H p = some (.ins C dx []) ∧ Small lo ∧ Small hi ∧ Small le ∧ Small ke ∧
  (good lo hi le ke → Q .non (upd H p (.ins C dx (terms lo hi le ke)))) ∧ (¬ good lo hi le ke → E (.ref BT) none H)
def sp_num (C : Addr) (g : Int → Int → Int → Int → Int) : Sp := fun vs H Q _ => ∃ (p dx : Addr) (lo hi le ke : Int), vs = [.ref p] ∧ H p = some (.ins C dx (terms lo hi le ke)) ∧ good lo hi le ke ∧ Q (.int (g lo hi le ke)) H
section
variable {P : Program} {w : World} {K : PySem.W.Frag} {mg : Str → Option Value} {base : Heap} {t : Adr}
theorem ok_law_cell (T : Txt K mg t) : FnOk P w K mg base CX0 1 t.f_law_cell t.d_law_cell ["_law_script", "_law_k"] (sp_law_cell K) := by
  refine T.F_law_cell.ok sc_law_cell (fun vs H Q E h => ?_) (fun cdv A outer s H vs Q E hr h => ?_)
  · obtain ⟨a, ns, k, rfl, _⟩ := h
    rfl
  · obtain ⟨a, ns, k, rfl, hS, q⟩ := h
    refine ⟨_, (jss_cons (js_if (jt_truth pl_name (je_var (i := 0) nm__law_script lo_law_cell__law_script rfl)) (jss_one (js_ret (je_ix jx_list (je_var (i := 0) nm__law_script lo_law_cell__law_script rfl) (je_op jo_mod (je_var (i := 1) nm__law_k lo_law_cell__law_k rfl) (je_callB nm_len lo_law_cell_len jc_len T.z_len bt_len sx_name ns_nil (ja_cons sx_name (je_var (i := 0) nm__law_script lo_law_cell__law_script rfl) ja_nil))) (fun _ _ => rfl)))) jss_nil)
      (jss_one (js_ret je_int))).h, ?_⟩
    try simp only [Y0, Y1, Y2, Y3, Y4, Y5, Y6, Y7, Y8, Y9, Ya, Yb, Yc, Yd, Ye, Yf, Yg, Yh, Yi, Yj, Yk, Yl, Ym, Yn, Yo, Yp, Yq, Yr, Ys, Yt, Yu, Yv, Yw, Yx, Yy, Yz, Z0, Z1, Z2, Z3, Z4, Z5, Z6, Z7, Z8, Z9, Za, Zb, Zc, Zd, Ze, Zf, Zg, Zh, Zi, Zj, Zk, Zl, Zm, Zn, Zo, Zp, Zq, Zr, Zs, Zt, Zu, Zv, Zw, Zx, Zy, Zz, V0, V1, V2, V3, V4, V5, V6, V7, V8, V9, Va, Vb, Vc, Vd, Ve, Vf, exists_eq_left', exists_eq_left, Vi, Vj, Vk, Vl, Vm, exists_and_left, Vo, and_true, true_and, if_true, if_false, decide_eq_true_eq, Vu, Vv, Vw, Vx, decide_eq_false_iff_not, reduceCtorEq, not_true_eq_false, not_false_eq_true, decide_true, decide_false, tSeq, xSeq]
    refine ⟨!(ns.map V.int).isEmpty, .inl ⟨_, hS, rfl⟩, ?_⟩
    cases ns with
    | nil => exact iteF (q 0)
    | cons n r =>
      obtain ⟨i, hi⟩ := at_mod (ns := n :: r) (k := k) (Nat.succ_pos _)
      refine iteT ?_
      refine rd_lenL hS ?_
      try simp only [Y0, Y1, Y2, Y3, Y4, Y5, Y6, Y7, Y8, Y9, Ya, Yb, Yc, Yd, Ye, Yf, Yg, Yh, Yi, Yj, Yk, Yl, Ym, Yn, Yo, Yp, Yq, Yr, Ys, Yt, Yu, Yv, Yw, Yx, Yy, Yz, Z0, Z1, Z2, Z3, Z4, Z5, Z6, Z7, Z8, Z9, Za, Zb, Zc, Zd, Ze, Zf, Zg, Zh, Zi, Zj, Zk, Zl, Zm, Zn, Zo, Zp, Zq, Zr, Zs, Zt, Zu, Zv, Zw, Zx, Zy, Zz, V0, V1, V2, V3, V4, V5, V6, V7, V8, V9, Va, Vb, Vc, Vd, Ve, Vf, exists_eq_left', exists_eq_left, Vi, Vj, Vk, Vl, Vm, exists_and_left, Vo, and_true, true_and, if_true, if_false, decide_eq_true_eq, Vu, Vv, Vw, Vx, decide_eq_false_iff_not, reduceCtorEq, not_true_eq_false, not_false_eq_true, decide_true, decide_false, tSeq, xSeq]
      refine ⟨?_, rd_ixL hS hi (q i)⟩
      show (0 : Int) < (((n :: r).map V.int).length : Int)
      rw [List.length_map, List.length_cons]
      omega
theorem ok_law_mix (T : Txt K mg t) : FnOk P w K mg base CX0 2 t.f_law_mix t.d_law_mix ["_law_script", "_law_k"] (sp_law_mix K) := by
  have G_law_cell : FnOk P w K mg base CX0 1 t.f_law_cell t.d_law_cell ["_law_script", "_law_k"] (sp_law_cell K) := ok_law_cell T
  refine T.F_law_mix.ok sc_law_mix (fun vs H Q E h => ?_) (fun cdv A outer s H vs Q E hr h => ?_)
  · obtain ⟨a, ns, k, rfl, _⟩ := h
    rfl
  · obtain ⟨a, ns, k, rfl, hS, q⟩ := h
    refine ⟨_, (jss_cons (js_set (i := 2) nc_bin sc_law_mix.nd rfl lo_law_mix__law_number (je_op jo_mod (je_op jo_add (je_call nm__law_cell lo_law_mix__law_cell (ok_law_cell T) (hr.mono (by decide)) T.m_law_cell T.F_law_cell.kp T.b_law_cell pass0 sx_name (ns_cons sx_name ns_nil) (ja_cons sx_name (je_var (i := 0) nm__law_script lo_law_mix__law_script rfl) (ja_cons sx_name (je_var (i := 1) nm__law_k lo_law_mix__law_k rfl) ja_nil))) (je_op jo_mul je_int (je_op jo_add (je_var (i := 1) nm__law_k lo_law_mix__law_k rfl) je_int))) je_int))
      (jss_cons (js_set (i := 2) nc_bin sc_law_mix.nd rfl lo_law_mix__law_number (je_op jo_mod (je_op jo_mul (je_var (i := 2) nm__law_number lo_law_mix__law_number rfl) je_int) je_int))
      (jss_one (js_ret (je_op jo_mod (je_op jo_add (je_op jo_mul (je_op jo_fdiv (je_var (i := 2) nm__law_number lo_law_mix__law_number rfl) je_int) je_int) (je_var (i := 2) nm__law_number lo_law_mix__law_number rfl)) je_int))))).h, ?_⟩
    try simp only [Y0, Y1, Y2, Y3, Y4, Y5, Y6, Y7, Y8, Y9, Ya, Yb, Yc, Yd, Ye, Yf, Yg, Yh, Yi, Yj, Yk, Yl, Ym, Yn, Yo, Yp, Yq, Yr, Ys, Yt, Yu, Yv, Yw, Yx, Yy, Yz, Z0, Z1, Z2, Z3, Z4, Z5, Z6, Z7, Z8, Z9, Za, Zb, Zc, Zd, Ze, Zf, Zg, Zh, Zi, Zj, Zk, Zl, Zm, Zn, Zo, Zp, Zq, Zr, Zs, Zt, Zu, Zv, Zw, Zx, Zy, Zz, V0, V1, V2, V3, V4, V5, V6, V7, V8, V9, Va, Vb, Vc, Vd, Ve, Vf, exists_eq_left', exists_eq_left, Vi, Vj, Vk, Vl, Vm, exists_and_left, Vo, and_true, true_and, if_true, if_false, decide_eq_true_eq, Vu, Vv, Vw, Vx, decide_eq_false_iff_not, reduceCtorEq, not_true_eq_false, not_false_eq_true, decide_true, decide_false, tSeq, xSeq]
    refine ⟨a, ns, k, rfl, hS, fun i => ?_⟩
    try simp only [Y0, Y1, Y2, Y3, Y4, Y5, Y6, Y7, Y8, Y9, Ya, Yb, Yc, Yd, Ye, Yf, Yg, Yh, Yi, Yj, Yk, Yl, Ym, Yn, Yo, Yp, Yq, Yr, Ys, Yt, Yu, Yv, Yw, Yx, Yy, Yz, Z0, Z1, Z2, Z3, Z4, Z5, Z6, Z7, Z8, Z9, Za, Zb, Zc, Zd, Ze, Zf, Zg, Zh, Zi, Zj, Zk, Zl, Zm, Zn, Zo, Zp, Zq, Zr, Zs, Zt, Zu, Zv, Zw, Zx, Zy, Zz, V0, V1, V2, V3, V4, V5, V6, V7, V8, V9, Va, Vb, Vc, Vd, Ve, Vf, exists_eq_left', exists_eq_left, Vi, Vj, Vk, Vl, Vm, exists_and_left, Vo, and_true, true_and, if_true, if_false, decide_eq_true_eq, Vu, Vv, Vw, Vx, decide_eq_false_iff_not, reduceCtorEq, not_true_eq_false, not_false_eq_true, decide_true, decide_false, tSeq, xSeq]
    refine ⟨.inl ⟨by decide, by decide⟩, by decide, .inr ⟨by decide, by decide⟩, by decide, ⟨by decide, by decide⟩, .inr ⟨by decide, by decide⟩, by decide, ?_⟩
    exact q _ (Int.emod_nonneg _ (by decide)) (Int.emod_lt_of_pos _ (by decide))
theorem ok_refuse_bad_steps (T : Txt K mg t) : FnOk P w K mg base (CXF P w) 1 t.f_refuse_bad_steps t.d_refuse_bad_steps ["low", "high"] (sp_steps t.BadTerms) := by
  obtain ⟨u, m_MOST_STEP⟩ := T.m_MOST_STEP
  refine T.F_refuse_bad_steps.okX sc_refuse_bad_steps (fun vs H Q E h => ?_) (fun cdv A outer s H vs Q E hr h => ?_)
  · obtain ⟨lo, hi, rfl, _⟩ := h
    rfl
  · obtain ⟨lo, hi, rfl, hl, hh, q, qe⟩ := h
    refine ⟨_, (jssx_cons (jsx_if (jt_bool (jw_or (jt_cmp jo_lt (je_var (i := 0) nm_low lo_refuse_bad_steps_low rfl) je_int (by decide) (by decide)) (jw_or1 (jt_cmp jo_gt (je_var (i := 1) nm_high lo_refuse_bad_steps_high rfl) (je_gint nm_MOST_STEP lo_refuse_bad_steps_MOST_STEP m_MOST_STEP) (by decide) (by decide))))) (jssx_one (jsx_raise nm_BadTerms rfl lo_refuse_bad_steps_BadTerms T.m_BadTerms T.n_BadTerms T.x_BadTerms PySem.F.excBase_ValueError sx_join ns_nil (ja_cons sx_join (je_fstr (jfs_cons (jf_str (by decide)) (jfs_cons (jf_int (je_var (i := 0) nm_low lo_refuse_bad_steps_low rfl)) (jfs_cons (jf_str (by decide)) (jfs_cons (jf_int (je_var (i := 1) nm_high lo_refuse_bad_steps_high rfl)) (jfs_cons (jf_str (by decide)) (jfs_cons (jf_int (je_gint nm_MOST_STEP lo_refuse_bad_steps_MOST_STEP m_MOST_STEP)) jfs_nil rfl) rfl) rfl) rfl) rfl) rfl) (by decide)) ja_nil))) jssx_nil)
      (jssx_one (jsx_if (jt_cmp jo_gt (je_var (i := 0) nm_low lo_refuse_bad_steps_low rfl) (je_var (i := 1) nm_high lo_refuse_bad_steps_high rfl) (by decide) (by decide)) (jssx_one (jsx_raise nm_BadTerms rfl lo_refuse_bad_steps_BadTerms T.m_BadTerms T.n_BadTerms T.x_BadTerms PySem.F.excBase_ValueError sx_join ns_nil (ja_cons sx_join (je_fstr (jfs_cons (jf_str (by decide)) (jfs_cons (jf_int (je_var (i := 0) nm_low lo_refuse_bad_steps_low rfl)) (jfs_cons (jf_str (by decide)) (jfs_cons (jf_int (je_var (i := 1) nm_high lo_refuse_bad_steps_high rfl)) jfs_nil rfl) rfl) rfl) rfl) (by decide)) ja_nil))) jssx_nil))).h, ?_⟩
    try simp only [Y0, Y1, Y2, Y3, Y4, Y5, Y6, Y7, Y8, Y9, Ya, Yb, Yc, Yd, Ye, Yf, Yg, Yh, Yi, Yj, Yk, Yl, Ym, Yn, Yo, Yp, Yq, Yr, Ys, Yt, Yu, Yv, Yw, Yx, Yy, Yz, Z0, Z1, Z2, Z3, Z4, Z5, Z6, Z7, Z8, Z9, Za, Zb, Zc, Zd, Ze, Zf, Zg, Zh, Zi, Zj, Zk, Zl, Zm, Zn, Zo, Zp, Zq, Zr, Zs, Zt, Zu, Zv, Zw, Zx, Zy, Zz, V0, V1, V2, V3, V4, V5, V6, V7, V8, V9, Va, Vb, Vc, Vd, Ve, Vf, exists_eq_left', exists_eq_left, Vi, Vj, Vk, Vl, Vm, exists_and_left, Vo, and_true, true_and, if_true, if_false, decide_eq_true_eq, Vu, Vv, Vw, Vx, decide_eq_false_iff_not, reduceCtorEq, not_true_eq_false, not_false_eq_true, decide_true, decide_false, tSeq, xSeq]
    have l1 := hl.log
    have l2 := hh.log
    have l3 : (Int.natAbs 1000).log2 < 1920 := by decide
    have l4 : 0 + 1 ≤ sizeLine := by decide
    split
    · exact ⟨l1, l2, l3, fun _ => ⟨l4, qe (by omega)⟩⟩
    · split
      · exact ⟨l1, l2, l3, fun _ => ⟨l4, qe (by omega)⟩⟩
      · split
        · exact ⟨l1, l2, fun _ => ⟨l4, qe (by omega)⟩⟩
        · exact q (by omega)
theorem ok_refuse_bad_length (T : Txt K mg t) : FnOk P w K mg base (CXF P w) 1 t.f_refuse_bad_length t.d_refuse_bad_length ["length"] (sp_range t.BadTerms 1000000) := by
  obtain ⟨u, m_MOST_LENGTH⟩ := T.m_MOST_LENGTH
  refine T.F_refuse_bad_length.okX sc_refuse_bad_length (fun vs H Q E h => ?_) (fun cdv A outer s H vs Q E hr h => ?_)
  · obtain ⟨v, rfl, _⟩ := h
    rfl
  · obtain ⟨v, rfl, hv, q, qe⟩ := h
    refine ⟨_, (jssx_one (jsx_if (jt_bool (jw_or (jt_cmp jo_lt (je_var (i := 0) nm_length lo_refuse_bad_length_length rfl) je_int (by decide) (by decide)) (jw_or1 (jt_cmp jo_gt (je_var (i := 0) nm_length lo_refuse_bad_length_length rfl) (je_gint nm_MOST_LENGTH lo_refuse_bad_length_MOST_LENGTH m_MOST_LENGTH) (by decide) (by decide))))) (jssx_one (jsx_raise nm_BadTerms rfl lo_refuse_bad_length_BadTerms T.m_BadTerms T.n_BadTerms T.x_BadTerms PySem.F.excBase_ValueError sx_join ns_nil (ja_cons sx_join (je_fstr (jfs_cons (jf_str (by decide)) (jfs_cons (jf_int (je_var (i := 0) nm_length lo_refuse_bad_length_length rfl)) (jfs_cons (jf_str (by decide)) (jfs_cons (jf_int (je_gint nm_MOST_LENGTH lo_refuse_bad_length_MOST_LENGTH m_MOST_LENGTH)) jfs_nil rfl) rfl) rfl) rfl) (by decide)) ja_nil))) jssx_nil)).h, ?_⟩
    try simp only [Y0, Y1, Y2, Y3, Y4, Y5, Y6, Y7, Y8, Y9, Ya, Yb, Yc, Yd, Ye, Yf, Yg, Yh, Yi, Yj, Yk, Yl, Ym, Yn, Yo, Yp, Yq, Yr, Ys, Yt, Yu, Yv, Yw, Yx, Yy, Yz, Z0, Z1, Z2, Z3, Z4, Z5, Z6, Z7, Z8, Z9, Za, Zb, Zc, Zd, Ze, Zf, Zg, Zh, Zi, Zj, Zk, Zl, Zm, Zn, Zo, Zp, Zq, Zr, Zs, Zt, Zu, Zv, Zw, Zx, Zy, Zz, V0, V1, V2, V3, V4, V5, V6, V7, V8, V9, Va, Vb, Vc, Vd, Ve, Vf, exists_eq_left', exists_eq_left, Vi, Vj, Vk, Vl, Vm, exists_and_left, Vo, and_true, true_and, if_true, if_false, decide_eq_true_eq, Vu, Vv, Vw, Vx, decide_eq_false_iff_not, reduceCtorEq, not_true_eq_false, not_false_eq_true, decide_true, decide_false, tSeq, xSeq]
    have l1 := hv.log
    have l3 : (Int.natAbs 1000000).log2 < 1920 := by decide
    have l4 : 0 + 1 ≤ sizeLine := by decide
    split
    · exact ⟨l1, l3, fun _ => ⟨l4, qe (by omega)⟩⟩
    · split
      · exact ⟨l1, l3, fun _ => ⟨l4, qe (by omega)⟩⟩
      · exact q (by omega)
theorem ok_refuse_bad_keepers (T : Txt K mg t) : FnOk P w K mg base (CXF P w) 1 t.f_refuse_bad_keepers t.d_refuse_bad_keepers ["keepers"] (sp_range t.BadTerms 9) := by
  obtain ⟨u, m_MOST_KEEPERS⟩ := T.m_MOST_KEEPERS
  refine T.F_refuse_bad_keepers.okX sc_refuse_bad_keepers (fun vs H Q E h => ?_) (fun cdv A outer s H vs Q E hr h => ?_)
  · obtain ⟨v, rfl, _⟩ := h
    rfl
  · obtain ⟨v, rfl, hv, q, qe⟩ := h
    refine ⟨_, (jssx_one (jsx_if (jt_bool (jw_or (jt_cmp jo_lt (je_var (i := 0) nm_keepers lo_refuse_bad_keepers_keepers rfl) je_int (by decide) (by decide)) (jw_or1 (jt_cmp jo_gt (je_var (i := 0) nm_keepers lo_refuse_bad_keepers_keepers rfl) (je_gint nm_MOST_KEEPERS lo_refuse_bad_keepers_MOST_KEEPERS m_MOST_KEEPERS) (by decide) (by decide))))) (jssx_one (jsx_raise nm_BadTerms rfl lo_refuse_bad_keepers_BadTerms T.m_BadTerms T.n_BadTerms T.x_BadTerms PySem.F.excBase_ValueError sx_join ns_nil (ja_cons sx_join (je_fstr (jfs_cons (jf_str (by decide)) (jfs_cons (jf_int (je_var (i := 0) nm_keepers lo_refuse_bad_keepers_keepers rfl)) (jfs_cons (jf_str (by decide)) (jfs_cons (jf_int (je_gint nm_MOST_KEEPERS lo_refuse_bad_keepers_MOST_KEEPERS m_MOST_KEEPERS)) jfs_nil rfl) rfl) rfl) rfl) (by decide)) ja_nil))) jssx_nil)).h, ?_⟩
    try simp only [Y0, Y1, Y2, Y3, Y4, Y5, Y6, Y7, Y8, Y9, Ya, Yb, Yc, Yd, Ye, Yf, Yg, Yh, Yi, Yj, Yk, Yl, Ym, Yn, Yo, Yp, Yq, Yr, Ys, Yt, Yu, Yv, Yw, Yx, Yy, Yz, Z0, Z1, Z2, Z3, Z4, Z5, Z6, Z7, Z8, Z9, Za, Zb, Zc, Zd, Ze, Zf, Zg, Zh, Zi, Zj, Zk, Zl, Zm, Zn, Zo, Zp, Zq, Zr, Zs, Zt, Zu, Zv, Zw, Zx, Zy, Zz, V0, V1, V2, V3, V4, V5, V6, V7, V8, V9, Va, Vb, Vc, Vd, Ve, Vf, exists_eq_left', exists_eq_left, Vi, Vj, Vk, Vl, Vm, exists_and_left, Vo, and_true, true_and, if_true, if_false, decide_eq_true_eq, Vu, Vv, Vw, Vx, decide_eq_false_iff_not, reduceCtorEq, not_true_eq_false, not_false_eq_true, decide_true, decide_false, tSeq, xSeq]
    have l1 := hv.log
    have l3 : (Int.natAbs 9).log2 < 1920 := by decide
    have l4 : 0 + 1 ≤ sizeLine := by decide
    split
    · exact ⟨l1, l3, fun _ => ⟨l4, qe (by omega)⟩⟩
    · split
      · exact ⟨l1, l3, fun _ => ⟨l4, qe (by omega)⟩⟩
      · exact q (by omega)
theorem ok_Terms_init (T : Txt K mg t) : FnOk P w K mg base (CXF P w) 2 t.f_Terms_init t.d_Terms_init ["self", "low", "high", "length", "keepers"] (sp_Terms_init t.Terms t.BadTerms) := by
  have G_refuse_bad_steps : FnOk P w K mg base (CXF P w) 1 t.f_refuse_bad_steps t.d_refuse_bad_steps ["low", "high"] (sp_steps t.BadTerms) := ok_refuse_bad_steps T
  have G_refuse_bad_length : FnOk P w K mg base (CXF P w) 1 t.f_refuse_bad_length t.d_refuse_bad_length ["length"] (sp_range t.BadTerms 1000000) := ok_refuse_bad_length T
  have G_refuse_bad_keepers : FnOk P w K mg base (CXF P w) 1 t.f_refuse_bad_keepers t.d_refuse_bad_keepers ["keepers"] (sp_range t.BadTerms 9) := ok_refuse_bad_keepers T
  refine T.F_Terms_init.okX sc_Terms_init (fun vs H Q E h => ?_) (fun cdv A outer s H vs Q E hr h => ?_)
  · obtain ⟨p, dx, lo, hi, le, ke, rfl, _⟩ := h
    rfl
  · obtain ⟨p, dx, lo, hi, le, ke, rfl, hp, s1, s2, s3, s4, q, qe⟩ := h
    refine ⟨_, (jssx_cons (jsx_expr nc_call (jex_call nm_refuse_bad_steps lo_Terms_init_refuse_bad_steps (ok_refuse_bad_steps T) (hr.mono (by decide)) T.m_refuse_bad_steps T.F_refuse_bad_steps.kp T.b_refuse_bad_steps sx_name (ns_cons sx_name ns_nil) (ja_cons sx_name (je_var (i := 1) nm_low lo_Terms_init_low rfl) (ja_cons sx_name (je_var (i := 2) nm_high lo_Terms_init_high rfl) ja_nil))))
      (jssx_cons (jsx_expr nc_call (jex_call nm_refuse_bad_length lo_Terms_init_refuse_bad_length (ok_refuse_bad_length T) (hr.mono (by decide)) T.m_refuse_bad_length T.F_refuse_bad_length.kp T.b_refuse_bad_length sx_name ns_nil (ja_cons sx_name (je_var (i := 3) nm_length lo_Terms_init_length rfl) ja_nil)))
      (jssx_cons (jsx_expr nc_call (jex_call nm_refuse_bad_keepers lo_Terms_init_refuse_bad_keepers (ok_refuse_bad_keepers T) (hr.mono (by decide)) T.m_refuse_bad_keepers T.F_refuse_bad_keepers.kp T.b_refuse_bad_keepers sx_name ns_nil (ja_cons sx_name (je_var (i := 4) nm_keepers lo_Terms_init_keepers rfl) ja_nil)))
      (jssx_cons (jx (js_fld nc_name (je_var (i := 0) nm_self lo_Terms_init_self rfl) (je_var (i := 1) nm_low lo_Terms_init_low rfl)))
      (jssx_cons (jx (js_fld nc_name (je_var (i := 0) nm_self lo_Terms_init_self rfl) (je_var (i := 2) nm_high lo_Terms_init_high rfl)))
      (jssx_cons (jx (js_fld nc_name (je_var (i := 0) nm_self lo_Terms_init_self rfl) (je_var (i := 3) nm_length lo_Terms_init_length rfl)))
      (jssx_one (jx (js_fld nc_name (je_var (i := 0) nm_self lo_Terms_init_self rfl) (je_var (i := 4) nm_keepers lo_Terms_init_keepers rfl)))))))))).h, ?_⟩
    try simp only [Y0, Y1, Y2, Y3, Y4, Y5, Y6, Y7, Y8, Y9, Ya, Yb, Yc, Yd, Ye, Yf, Yg, Yh, Yi, Yj, Yk, Yl, Ym, Yn, Yo, Yp, Yq, Yr, Ys, Yt, Yu, Yv, Yw, Yx, Yy, Yz, Z0, Z1, Z2, Z3, Z4, Z5, Z6, Z7, Z8, Z9, Za, Zb, Zc, Zd, Ze, Zf, Zg, Zh, Zi, Zj, Zk, Zl, Zm, Zn, Zo, Zp, Zq, Zr, Zs, Zt, Zu, Zv, Zw, Zx, Zy, Zz, V0, V1, V2, V3, V4, V5, V6, V7, V8, V9, Va, Vb, Vc, Vd, Ve, Vf, exists_eq_left', exists_eq_left, Vi, Vj, Vk, Vl, Vm, exists_and_left, Vo, and_true, true_and, if_true, if_false, decide_eq_true_eq, Vu, Vv, Vw, Vx, decide_eq_false_iff_not, reduceCtorEq, not_true_eq_false, not_false_eq_true, decide_true, decide_false, tSeq, xSeq]
    refine ⟨lo, hi, rfl, s1, s2, fun g1 => ?_, fun g1 => qe (by unfold good; omega)⟩
    refine ⟨le, rfl, s3, fun g2 => ?_, fun g2 => qe (by unfold good; omega)⟩
    refine ⟨ke, rfl, s4, fun g3 => ?_, fun g3 => qe (by unfold good; omega)⟩
    try simp only [Y0, Y1, Y2, Y3, Y4, Y5, Y6, Y7, Y8, Y9, Ya, Yb, Yc, Yd, Ye, Yf, Yg, Yh, Yi, Yj, Yk, Yl, Ym, Yn, Yo, Yp, Yq, Yr, Ys, Yt, Yu, Yv, Yw, Yx, Yy, Yz, Z0, Z1, Z2, Z3, Z4, Z5, Z6, Z7, Z8, Z9, Za, Zb, Zc, Zd, Ze, Zf, Zg, Zh, Zi, Zj, Zk, Zl, Zm, Zn, Zo, Zp, Zq, Zr, Zs, Zt, Zu, Zv, Zw, Zx, Zy, Zz, V0, V1, V2, V3, V4, V5, V6, V7, V8, V9, Va, Vb, Vc, Vd, Ve, Vf, exists_eq_left', exists_eq_left, Vi, Vj, Vk, Vl, Vm, exists_and_left, Vo, and_true, true_and, if_true, if_false, decide_eq_true_eq, Vu, Vv, Vw, Vx, decide_eq_false_iff_not, reduceCtorEq, not_true_eq_false, not_false_eq_true, decide_true, decide_false, tSeq, xSeq]
    refine rd_put hp T.cl_Terms T.nf_Terms_low (by decide : 0 < 1000) ?_
    try simp only [Y0, Y1, Y2, Y3, Y4, Y5, Y6, Y7, Y8, Y9, Ya, Yb, Yc, Yd, Ye, Yf, Yg, Yh, Yi, Yj, Yk, Yl, Ym, Yn, Yo, Yp, Yq, Yr, Ys, Yt, Yu, Yv, Yw, Yx, Yy, Yz, Z0, Z1, Z2, Z3, Z4, Z5, Z6, Z7, Z8, Z9, Za, Zb, Zc, Zd, Ze, Zf, Zg, Zh, Zi, Zj, Zk, Zl, Zm, Zn, Zo, Zp, Zq, Zr, Zs, Zt, Zu, Zv, Zw, Zx, Zy, Zz, V0, V1, V2, V3, V4, V5, V6, V7, V8, V9, Va, Vb, Vc, Vd, Ve, Vf, exists_eq_left', exists_eq_left, Vi, Vj, Vk, Vl, Vm, exists_and_left, Vo, and_true, true_and, if_true, if_false, decide_eq_true_eq, Vu, Vv, Vw, Vx, decide_eq_false_iff_not, reduceCtorEq, not_true_eq_false, not_false_eq_true, decide_true, decide_false, tSeq, xSeq]
    refine rd_put upd_same T.cl_Terms T.nf_Terms_high (by exact (by decide : 1 < 1000)) ?_
    try simp only [Y0, Y1, Y2, Y3, Y4, Y5, Y6, Y7, Y8, Y9, Ya, Yb, Yc, Yd, Ye, Yf, Yg, Yh, Yi, Yj, Yk, Yl, Ym, Yn, Yo, Yp, Yq, Yr, Ys, Yt, Yu, Yv, Yw, Yx, Yy, Yz, Z0, Z1, Z2, Z3, Z4, Z5, Z6, Z7, Z8, Z9, Za, Zb, Zc, Zd, Ze, Zf, Zg, Zh, Zi, Zj, Zk, Zl, Zm, Zn, Zo, Zp, Zq, Zr, Zs, Zt, Zu, Zv, Zw, Zx, Zy, Zz, V0, V1, V2, V3, V4, V5, V6, V7, V8, V9, Va, Vb, Vc, Vd, Ve, Vf, exists_eq_left', exists_eq_left, Vi, Vj, Vk, Vl, Vm, exists_and_left, Vo, and_true, true_and, if_true, if_false, decide_eq_true_eq, Vu, Vv, Vw, Vx, decide_eq_false_iff_not, reduceCtorEq, not_true_eq_false, not_false_eq_true, decide_true, decide_false, tSeq, xSeq]
    refine rd_put upd_same T.cl_Terms T.nf_Terms_length (by exact (by decide : 2 < 1000)) ?_
    try simp only [Y0, Y1, Y2, Y3, Y4, Y5, Y6, Y7, Y8, Y9, Ya, Yb, Yc, Yd, Ye, Yf, Yg, Yh, Yi, Yj, Yk, Yl, Ym, Yn, Yo, Yp, Yq, Yr, Ys, Yt, Yu, Yv, Yw, Yx, Yy, Yz, Z0, Z1, Z2, Z3, Z4, Z5, Z6, Z7, Z8, Z9, Za, Zb, Zc, Zd, Ze, Zf, Zg, Zh, Zi, Zj, Zk, Zl, Zm, Zn, Zo, Zp, Zq, Zr, Zs, Zt, Zu, Zv, Zw, Zx, Zy, Zz, V0, V1, V2, V3, V4, V5, V6, V7, V8, V9, Va, Vb, Vc, Vd, Ve, Vf, exists_eq_left', exists_eq_left, Vi, Vj, Vk, Vl, Vm, exists_and_left, Vo, and_true, true_and, if_true, if_false, decide_eq_true_eq, Vu, Vv, Vw, Vx, decide_eq_false_iff_not, reduceCtorEq, not_true_eq_false, not_false_eq_true, decide_true, decide_false, tSeq, xSeq]
    refine rd_put upd_same T.cl_Terms T.nf_Terms_keepers (by exact (by decide : 3 < 1000)) ?_
    rw [upd_upd, upd_upd, upd_upd]
    exact q (by unfold good; omega)
theorem ok_Terms_ticks (T : Txt K mg t) : FnOk P w K mg base CX0 1 t.f_Terms_ticks t.d_Terms_ticks ["self"] (sp_num t.Terms fun lo _ le _ => (le + lo - 1) / lo) := by
  refine T.F_Terms_ticks.ok sc_Terms_ticks (fun vs H Q E h => ?_) (fun cdv A outer s H vs Q E hr h => ?_)
  · obtain ⟨p, dx, lo, hi, le, ke, rfl, _⟩ := h
    rfl
  · obtain ⟨p, dx, lo, hi, le, ke, rfl, hp, g, q⟩ := h
    refine ⟨_, (jss_one (js_ret (je_op jo_fdiv (je_op jo_sub (je_op jo_add (je_fld bs_name (je_var (i := 0) nm_self lo_Terms_ticks_self rfl)) (je_fld bs_name (je_var (i := 0) nm_self lo_Terms_ticks_self rfl))) je_int) (je_fld bs_name (je_var (i := 0) nm_self lo_Terms_ticks_self rfl))))).h, ?_⟩
    try simp only [Y0, Y1, Y2, Y3, Y4, Y5, Y6, Y7, Y8, Y9, Ya, Yb, Yc, Yd, Ye, Yf, Yg, Yh, Yi, Yj, Yk, Yl, Ym, Yn, Yo, Yp, Yq, Yr, Ys, Yt, Yu, Yv, Yw, Yx, Yy, Yz, Z0, Z1, Z2, Z3, Z4, Z5, Z6, Z7, Z8, Z9, Za, Zb, Zc, Zd, Ze, Zf, Zg, Zh, Zi, Zj, Zk, Zl, Zm, Zn, Zo, Zp, Zq, Zr, Zs, Zt, Zu, Zv, Zw, Zx, Zy, Zz, V0, V1, V2, V3, V4, V5, V6, V7, V8, V9, Va, Vb, Vc, Vd, Ve, Vf, exists_eq_left', exists_eq_left, Vi, Vj, Vk, Vl, Vm, exists_and_left, Vo, and_true, true_and, if_true, if_false, decide_eq_true_eq, Vu, Vv, Vw, Vx, decide_eq_false_iff_not, reduceCtorEq, not_true_eq_false, not_false_eq_true, decide_true, decide_false, tSeq, xSeq]
    refine rd_Terms_length T hp (rd_Terms_low T hp ?_)
    try simp only [Y0, Y1, Y2, Y3, Y4, Y5, Y6, Y7, Y8, Y9, Ya, Yb, Yc, Yd, Ye, Yf, Yg, Yh, Yi, Yj, Yk, Yl, Ym, Yn, Yo, Yp, Yq, Yr, Ys, Yt, Yu, Yv, Yw, Yx, Yy, Yz, Z0, Z1, Z2, Z3, Z4, Z5, Z6, Z7, Z8, Z9, Za, Zb, Zc, Zd, Ze, Zf, Zg, Zh, Zi, Zj, Zk, Zl, Zm, Zn, Zo, Zp, Zq, Zr, Zs, Zt, Zu, Zv, Zw, Zx, Zy, Zz, V0, V1, V2, V3, V4, V5, V6, V7, V8, V9, Va, Vb, Vc, Vd, Ve, Vf, exists_eq_left', exists_eq_left, Vi, Vj, Vk, Vl, Vm, exists_and_left, Vo, and_true, true_and, if_true, if_false, decide_eq_true_eq, Vu, Vv, Vw, Vx, decide_eq_false_iff_not, reduceCtorEq, not_true_eq_false, not_false_eq_true, decide_true, decide_false, tSeq, xSeq]
    refine rd_Terms_low T hp ?_
    try simp only [Y0, Y1, Y2, Y3, Y4, Y5, Y6, Y7, Y8, Y9, Ya, Yb, Yc, Yd, Ye, Yf, Yg, Yh, Yi, Yj, Yk, Yl, Ym, Yn, Yo, Yp, Yq, Yr, Ys, Yt, Yu, Yv, Yw, Yx, Yy, Yz, Z0, Z1, Z2, Z3, Z4, Z5, Z6, Z7, Z8, Z9, Za, Zb, Zc, Zd, Ze, Zf, Zg, Zh, Zi, Zj, Zk, Zl, Zm, Zn, Zo, Zp, Zq, Zr, Zs, Zt, Zu, Zv, Zw, Zx, Zy, Zz, V0, V1, V2, V3, V4, V5, V6, V7, V8, V9, Va, Vb, Vc, Vd, Ve, Vf, exists_eq_left', exists_eq_left, Vi, Vj, Vk, Vl, Vm, exists_and_left, Vo, and_true, true_and, if_true, if_false, decide_eq_true_eq, Vu, Vv, Vw, Vx, decide_eq_false_iff_not, reduceCtorEq, not_true_eq_false, not_false_eq_true, decide_true, decide_false, tSeq, xSeq]
    unfold good at g
    exact ⟨⟨by omega, by omega⟩, q⟩
theorem ok_Terms_wait (T : Txt K mg t) : FnOk P w K mg base CX0 2 t.f_Terms_wait t.d_Terms_wait ["self"] (sp_num t.Terms fun lo hi le _ => (le + lo - 1) / lo * hi) := by
  have G_Terms_ticks : FnOk P w K mg base CX0 1 t.f_Terms_ticks t.d_Terms_ticks ["self"] (sp_num t.Terms fun lo _ le _ => (le + lo - 1) / lo) := ok_Terms_ticks T
  refine T.F_Terms_wait.ok sc_Terms_wait (fun vs H Q E h => ?_) (fun cdv A outer s H vs Q E hr h => ?_)
  · obtain ⟨p, dx, lo, hi, le, ke, rfl, _⟩ := h
    rfl
  · obtain ⟨p, dx, lo, hi, le, ke, rfl, hp, g, q⟩ := h
    refine ⟨_, (jss_one (js_ret (je_op jo_mul (je_meth0 bs_name rfl (je_var (i := 0) nm_self lo_Terms_wait_self rfl) T.cl_Terms T.h_Terms_ticks (ok_Terms_ticks T) (hr.mono (by decide)) T.b_Terms_ticks pass0) (je_fld bs_name (je_var (i := 0) nm_self lo_Terms_wait_self rfl))))).h, ?_⟩
    try simp only [Y0, Y1, Y2, Y3, Y4, Y5, Y6, Y7, Y8, Y9, Ya, Yb, Yc, Yd, Ye, Yf, Yg, Yh, Yi, Yj, Yk, Yl, Ym, Yn, Yo, Yp, Yq, Yr, Ys, Yt, Yu, Yv, Yw, Yx, Yy, Yz, Z0, Z1, Z2, Z3, Z4, Z5, Z6, Z7, Z8, Z9, Za, Zb, Zc, Zd, Ze, Zf, Zg, Zh, Zi, Zj, Zk, Zl, Zm, Zn, Zo, Zp, Zq, Zr, Zs, Zt, Zu, Zv, Zw, Zx, Zy, Zz, V0, V1, V2, V3, V4, V5, V6, V7, V8, V9, Va, Vb, Vc, Vd, Ve, Vf, exists_eq_left', exists_eq_left, Vi, Vj, Vk, Vl, Vm, exists_and_left, Vo, and_true, true_and, if_true, if_false, decide_eq_true_eq, Vu, Vv, Vw, Vx, decide_eq_false_iff_not, reduceCtorEq, not_true_eq_false, not_false_eq_true, decide_true, decide_false, tSeq, xSeq]
    refine me_Terms_ticks hp ⟨p, dx, lo, hi, le, ke, rfl, hp, g, ?_⟩
    refine rd_Terms_high T hp ?_
    try simp only [Y0, Y1, Y2, Y3, Y4, Y5, Y6, Y7, Y8, Y9, Ya, Yb, Yc, Yd, Ye, Yf, Yg, Yh, Yi, Yj, Yk, Yl, Ym, Yn, Yo, Yp, Yq, Yr, Ys, Yt, Yu, Yv, Yw, Yx, Yy, Yz, Z0, Z1, Z2, Z3, Z4, Z5, Z6, Z7, Z8, Z9, Za, Zb, Zc, Zd, Ze, Zf, Zg, Zh, Zi, Zj, Zk, Zl, Zm, Zn, Zo, Zp, Zq, Zr, Zs, Zt, Zu, Zv, Zw, Zx, Zy, Zz, V0, V1, V2, V3, V4, V5, V6, V7, V8, V9, Va, Vb, Vc, Vd, Ve, Vf, exists_eq_left', exists_eq_left, Vi, Vj, Vk, Vl, Vm, exists_and_left, Vo, and_true, true_and, if_true, if_false, decide_eq_true_eq, Vu, Vv, Vw, Vx, decide_eq_false_iff_not, reduceCtorEq, not_true_eq_false, not_false_eq_true, decide_true, decide_false, tSeq, xSeq]
    unfold good at g
    exact ⟨.inr ⟨by omega, by omega⟩, q⟩
theorem ok_Terms_most (T : Txt K mg t) : FnOk P w K mg base CX0 1 t.f_Terms_most t.d_Terms_most ["self"] (sp_num t.Terms fun _ _ _ ke => ke / 2 + 1) := by
  refine T.F_Terms_most.ok sc_Terms_most (fun vs H Q E h => ?_) (fun cdv A outer s H vs Q E hr h => ?_)
  · obtain ⟨p, dx, lo, hi, le, ke, rfl, _⟩ := h
    rfl
  · obtain ⟨p, dx, lo, hi, le, ke, rfl, hp, g, q⟩ := h
    refine ⟨_, (jss_one (js_ret (je_op jo_add (je_op jo_fdiv (je_fld bs_name (je_var (i := 0) nm_self lo_Terms_most_self rfl)) je_int) je_int))).h, ?_⟩
    try simp only [Y0, Y1, Y2, Y3, Y4, Y5, Y6, Y7, Y8, Y9, Ya, Yb, Yc, Yd, Ye, Yf, Yg, Yh, Yi, Yj, Yk, Yl, Ym, Yn, Yo, Yp, Yq, Yr, Ys, Yt, Yu, Yv, Yw, Yx, Yy, Yz, Z0, Z1, Z2, Z3, Z4, Z5, Z6, Z7, Z8, Z9, Za, Zb, Zc, Zd, Ze, Zf, Zg, Zh, Zi, Zj, Zk, Zl, Zm, Zn, Zo, Zp, Zq, Zr, Zs, Zt, Zu, Zv, Zw, Zx, Zy, Zz, V0, V1, V2, V3, V4, V5, V6, V7, V8, V9, Va, Vb, Vc, Vd, Ve, Vf, exists_eq_left', exists_eq_left, Vi, Vj, Vk, Vl, Vm, exists_and_left, Vo, and_true, true_and, if_true, if_false, decide_eq_true_eq, Vu, Vv, Vw, Vx, decide_eq_false_iff_not, reduceCtorEq, not_true_eq_false, not_false_eq_true, decide_true, decide_false, tSeq, xSeq]
    refine rd_Terms_keepers T hp ?_
    try simp only [Y0, Y1, Y2, Y3, Y4, Y5, Y6, Y7, Y8, Y9, Ya, Yb, Yc, Yd, Ye, Yf, Yg, Yh, Yi, Yj, Yk, Yl, Ym, Yn, Yo, Yp, Yq, Yr, Ys, Yt, Yu, Yv, Yw, Yx, Yy, Yz, Z0, Z1, Z2, Z3, Z4, Z5, Z6, Z7, Z8, Z9, Za, Zb, Zc, Zd, Ze, Zf, Zg, Zh, Zi, Zj, Zk, Zl, Zm, Zn, Zo, Zp, Zq, Zr, Zs, Zt, Zu, Zv, Zw, Zx, Zy, Zz, V0, V1, V2, V3, V4, V5, V6, V7, V8, V9, Va, Vb, Vc, Vd, Ve, Vf, exists_eq_left', exists_eq_left, Vi, Vj, Vk, Vl, Vm, exists_and_left, Vo, and_true, true_and, if_true, if_false, decide_eq_true_eq, Vu, Vv, Vw, Vx, decide_eq_false_iff_not, reduceCtorEq, not_true_eq_false, not_false_eq_true, decide_true, decide_false, tSeq, xSeq]
    exact ⟨⟨by decide, by decide⟩, q⟩
end
theorem mix_at {K : PySem.W.Frag} {H : Hp} {a : Addr} {ns : List Int} {k : Int} {Q : VK} {E : XK} (hS : SqL K H a (ns.map V.int)) (h : ∀ i, 0 ≤ i → i < 4294967231 → Q (.int i) H) : sp_law_mix K [.ref a, .int k] H Q E := ⟨a, ns, k, rfl, hS, h⟩
theorem same_upd {H : Hp} {p : Addr} {o : HO} (h : H p = none) : Same H (upd H p o) := fun b u e => by
  rw [upd_ne (ne_of_none e h)]
  exact e
/-- an item of a menu -/
theorem menu {K : PySem.W.Frag} {H : Hp} {p : Addr} {Q : VK} {i m : Int} (ns : List Int) (hp : H p = some (.lst (ns.map V.int))) (h0 : 0 < m) (hm : m = (ns.length : Int)) (h : ∀ v, v ∈ ns → Q (.int v) H) : rIxL K (.ref p) (.int (i % m)) H Q := by
  have h1 : 0 ≤ i % m := Int.emod_nonneg _ (by omega)
  have h2 : i % m < m := Int.emod_lt_of_pos _ h0
  obtain ⟨j, hj⟩ : ∃ j : Nat, i % m = (j : Int) := ⟨_, (Int.toNat_of_nonneg h1).symm⟩
  have hlt : j < ns.length := by omega
  rw [hj]
  refine rd_ixL (xs := ns.map V.int) (v := .int ns[j]) (SqL.of hp) (atI_nat ?_) (h _ (List.getElem_mem hlt))
  rw [List.getElem?_map, List.getElem?_eq_getElem hlt]
  rfl
/-- the terms that a law draws -/
structure Drawn (lo hi le ke : Int) : Prop where
  l1 : 1 ≤ lo
  l2 : lo ≤ 3
  h1 : lo ≤ hi
  h2 : hi ≤ 5
  e1 : 1 ≤ le
  e2 : le ≤ 12
  k1 : 1 ≤ ke
  k2 : ke ≤ 5
theorem Drawn.good {lo hi le ke : Int} (d : Drawn lo hi le ke) : good lo hi le ke := by
  obtain ⟨a, b, c, e, f, g, h, i⟩ := d
  exact ⟨by omega, by omega, by omega, by omega, by omega, by omega, by omega⟩
def waitOf (lo hi le : Int) : Int := (le + lo - 1) / lo * hi
def sp_law_terms (K : PySem.W.Frag) : Sp := fun vs H Q _ => ∃ (a : Addr) (ns : List Int) (k : Int), vs = [.ref a, .int k] ∧ SqL K H a (ns.map V.int) ∧
  ∀ (lo hi le ke : Int) (p : Addr) (H' : Hp), Drawn lo hi le ke → Same H H' → H p = none → H' p = some (.tup [.int lo, .int hi, .int le, .int ke]) → Q (.ref p) H'
def sp_law_wait : Sp := fun vs H Q _ => ∃ (p : Addr) (lo hi le ke : Int), vs = [.ref p] ∧ H p = some (.tup [.int lo, .int hi, .int le, .int ke]) ∧ Drawn lo hi le ke ∧ Q (.int (waitOf lo hi le)) H
section
variable {P : Program} {w : World} {K : PySem.W.Frag} {mg : Str → Option Value} {base : Heap} {t : Adr}
theorem ok_law_terms (T : Txt K mg t) : FnOk P w K mg base CX0 3 t.f_law_terms t.d_law_terms ["_law_script", "_law_k"] (sp_law_terms K) := by
  refine T.F_law_terms.ok sc_law_terms (fun vs H Q E h => ?_) (fun cdv A outer s H vs Q E hr h => ?_)
  · obtain ⟨a, ns, k, rfl, _⟩ := h
    rfl
  · obtain ⟨a, ns, k, rfl, hS, q⟩ := h
    refine ⟨_, (jss_cons (js_set (i := 2) nc_bin sc_law_terms.nd rfl lo_law_terms__law_low (je_op jo_add je_int (je_op jo_mod (je_call nm__law_mix lo_law_terms__law_mix (ok_law_mix T) (hr.mono (by decide)) T.m_law_mix T.F_law_mix.kp T.b_law_mix pass0 sx_name (ns_cons sx_name ns_nil) (ja_cons sx_name (je_var (i := 0) nm__law_script lo_law_terms__law_script rfl) (ja_cons sx_name (je_var (i := 1) nm__law_k lo_law_terms__law_k rfl) ja_nil))) je_int)))
      (jss_cons (js_set (i := 3) nc_bin sc_law_terms.nd rfl lo_law_terms__law_high (je_op jo_add (je_var (i := 2) nm__law_low lo_law_terms__law_low rfl) (je_op jo_mod (je_call nm__law_mix lo_law_terms__law_mix (ok_law_mix T) (hr.mono (by decide)) T.m_law_mix T.F_law_mix.kp T.b_law_mix pass0 sx_name (ns_cons sx_bin ns_nil) (ja_cons sx_name (je_var (i := 0) nm__law_script lo_law_terms__law_script rfl) (ja_cons sx_bin (je_op jo_add (je_var (i := 1) nm__law_k lo_law_terms__law_k rfl) je_int) ja_nil))) je_int)))
      (jss_cons (js_set (i := 4) nc_sub sc_law_terms.nd rfl lo_law_terms__law_length (je_ix jx_list (je_lst (ja_cons sx_const je_int (ja_cons sx_const je_int (ja_cons sx_const je_int (ja_cons sx_const je_int (ja_cons sx_const je_int (ja_cons sx_const je_int ja_nil))))))) (je_op jo_mod (je_call nm__law_mix lo_law_terms__law_mix (ok_law_mix T) (hr.mono (by decide)) T.m_law_mix T.F_law_mix.kp T.b_law_mix pass0 sx_name (ns_cons sx_bin ns_nil) (ja_cons sx_name (je_var (i := 0) nm__law_script lo_law_terms__law_script rfl) (ja_cons sx_bin (je_op jo_add (je_var (i := 1) nm__law_k lo_law_terms__law_k rfl) je_int) ja_nil))) je_int) (fun _ _ => rfl)))
      (jss_one (js_ret (je_tup (ja_cons sx_name (je_var (i := 2) nm__law_low lo_law_terms__law_low rfl) (ja_cons sx_name (je_var (i := 3) nm__law_high lo_law_terms__law_high rfl) (ja_cons sx_name (je_var (i := 4) nm__law_length lo_law_terms__law_length rfl) (ja_cons sx_sub (je_ix jx_list (je_lst (ja_cons sx_const je_int (ja_cons sx_const je_int (ja_cons sx_const je_int (ja_cons sx_const je_int (ja_cons sx_const je_int (ja_cons sx_const je_int ja_nil))))))) (je_op jo_mod (je_call nm__law_mix lo_law_terms__law_mix (ok_law_mix T) (hr.mono (by decide)) T.m_law_mix T.F_law_mix.kp T.b_law_mix pass0 sx_name (ns_cons sx_bin ns_nil) (ja_cons sx_name (je_var (i := 0) nm__law_script lo_law_terms__law_script rfl) (ja_cons sx_bin (je_op jo_add (je_var (i := 1) nm__law_k lo_law_terms__law_k rfl) je_int) ja_nil))) je_int) (fun _ _ => rfl)) ja_nil)))))))))).h, ?_⟩
    dsimp only [L2.start, List.map_cons, List.map_nil, List.length_cons, List.length_nil, List.cons_append, List.nil_append, List.replicate]
    refine seq_step fun R k1 => ?_
    try simp only [Y0, Y1, Y2, Y3, Y4, Y5, Y6, Y7, Y8, Y9, Ya, Yb, Yc, Yd, Ye, Yf, Yg, Yh, Yi, Yj, Yk, Yl, Ym, Yn, Yo, Yp, Yq, Yr, Ys, Yt, Yu, Yv, Yw, Yx, Yy, Yz, Z0, Z1, Z2, Z3, Z4, Z5, Z6, Z7, Z8, Z9, Za, Zb, Zc, Zd, Ze, Zf, Zg, Zh, Zi, Zj, Zk, Zl, Zm, Zn, Zo, Zp, Zq, Zr, Zs, Zt, Zu, Zv, Zw, Zx, Zy, Zz, V0, V1, V2, V3, V4, V5, V6, V7, V8, V9, Va, Vb, Vc, Vd, Ve, Vf, exists_eq_left', exists_eq_left, Vi, Vj, Vk, Vl, Vm, exists_and_left, Vo, and_true, true_and, if_true, if_false, decide_eq_true_eq, Vu, Vv, Vw, Vx, decide_eq_false_iff_not, reduceCtorEq, not_true_eq_false, not_false_eq_true, decide_true, decide_false]
    refine mix_at hS fun i0 l0 u0 => ?_
    try simp only [Y0, Y1, Y2, Y3, Y4, Y5, Y6, Y7, Y8, Y9, Ya, Yb, Yc, Yd, Ye, Yf, Yg, Yh, Yi, Yj, Yk, Yl, Ym, Yn, Yo, Yp, Yq, Yr, Ys, Yt, Yu, Yv, Yw, Yx, Yy, Yz, Z0, Z1, Z2, Z3, Z4, Z5, Z6, Z7, Z8, Z9, Za, Zb, Zc, Zd, Ze, Zf, Zg, Zh, Zi, Zj, Zk, Zl, Zm, Zn, Zo, Zp, Zq, Zr, Zs, Zt, Zu, Zv, Zw, Zx, Zy, Zz, V0, V1, V2, V3, V4, V5, V6, V7, V8, V9, Va, Vb, Vc, Vd, Ve, Vf, exists_eq_left', exists_eq_left, Vi, Vj, Vk, Vl, Vm, exists_and_left, Vo, and_true, true_and, if_true, if_false, decide_eq_true_eq, Vu, Vv, Vw, Vx, decide_eq_false_iff_not, reduceCtorEq, not_true_eq_false, not_false_eq_true, decide_true, decide_false]
    refine ⟨by decide, k1 _ _ ?_⟩
    clear k1 R
    refine seq_step fun R k1 => ?_
    try simp only [Y0, Y1, Y2, Y3, Y4, Y5, Y6, Y7, Y8, Y9, Ya, Yb, Yc, Yd, Ye, Yf, Yg, Yh, Yi, Yj, Yk, Yl, Ym, Yn, Yo, Yp, Yq, Yr, Ys, Yt, Yu, Yv, Yw, Yx, Yy, Yz, Z0, Z1, Z2, Z3, Z4, Z5, Z6, Z7, Z8, Z9, Za, Zb, Zc, Zd, Ze, Zf, Zg, Zh, Zi, Zj, Zk, Zl, Zm, Zn, Zo, Zp, Zq, Zr, Zs, Zt, Zu, Zv, Zw, Zx, Zy, Zz, V0, V1, V2, V3, V4, V5, V6, V7, V8, V9, Va, Vb, Vc, Vd, Ve, Vf, exists_eq_left', exists_eq_left, Vi, Vj, Vk, Vl, Vm, exists_and_left, Vo, and_true, true_and, if_true, if_false, decide_eq_true_eq, Vu, Vv, Vw, Vx, decide_eq_false_iff_not, reduceCtorEq, not_true_eq_false, not_false_eq_true, decide_true, decide_false]
    refine mix_at hS fun i1 l1 u1 => ?_
    try simp only [Y0, Y1, Y2, Y3, Y4, Y5, Y6, Y7, Y8, Y9, Ya, Yb, Yc, Yd, Ye, Yf, Yg, Yh, Yi, Yj, Yk, Yl, Ym, Yn, Yo, Yp, Yq, Yr, Ys, Yt, Yu, Yv, Yw, Yx, Yy, Yz, Z0, Z1, Z2, Z3, Z4, Z5, Z6, Z7, Z8, Z9, Za, Zb, Zc, Zd, Ze, Zf, Zg, Zh, Zi, Zj, Zk, Zl, Zm, Zn, Zo, Zp, Zq, Zr, Zs, Zt, Zu, Zv, Zw, Zx, Zy, Zz, V0, V1, V2, V3, V4, V5, V6, V7, V8, V9, Va, Vb, Vc, Vd, Ve, Vf, exists_eq_left', exists_eq_left, Vi, Vj, Vk, Vl, Vm, exists_and_left, Vo, and_true, true_and, if_true, if_false, decide_eq_true_eq, Vu, Vv, Vw, Vx, decide_eq_false_iff_not, reduceCtorEq, not_true_eq_false, not_false_eq_true, decide_true, decide_false]
    refine ⟨by decide, k1 _ _ ?_⟩
    clear k1 R
    refine seq_step fun R k1 => ?_
    try simp only [Y0, Y1, Y2, Y3, Y4, Y5, Y6, Y7, Y8, Y9, Ya, Yb, Yc, Yd, Ye, Yf, Yg, Yh, Yi, Yj, Yk, Yl, Ym, Yn, Yo, Yp, Yq, Yr, Ys, Yt, Yu, Yv, Yw, Yx, Yy, Yz, Z0, Z1, Z2, Z3, Z4, Z5, Z6, Z7, Z8, Z9, Za, Zb, Zc, Zd, Ze, Zf, Zg, Zh, Zi, Zj, Zk, Zl, Zm, Zn, Zo, Zp, Zq, Zr, Zs, Zt, Zu, Zv, Zw, Zx, Zy, Zz, V0, V1, V2, V3, V4, V5, V6, V7, V8, V9, Va, Vb, Vc, Vd, Ve, Vf, exists_eq_left', exists_eq_left, Vi, Vj, Vk, Vl, Vm, exists_and_left, Vo, and_true, true_and, if_true, if_false, decide_eq_true_eq, Vu, Vv, Vw, Vx, decide_eq_false_iff_not, reduceCtorEq, not_true_eq_false, not_false_eq_true, decide_true, decide_false]
    refine ⟨by decide, fun p2 hp2 => ?_⟩
    have S2 := same_upd (H := H) (o := .lst [.int 1, .int 2, .int 3, .int 5, .int 9, .int 12]) hp2
    refine mix_at (S2.seq hS) fun i2 l2 u2 => ?_
    try simp only [Y0, Y1, Y2, Y3, Y4, Y5, Y6, Y7, Y8, Y9, Ya, Yb, Yc, Yd, Ye, Yf, Yg, Yh, Yi, Yj, Yk, Yl, Ym, Yn, Yo, Yp, Yq, Yr, Ys, Yt, Yu, Yv, Yw, Yx, Yy, Yz, Z0, Z1, Z2, Z3, Z4, Z5, Z6, Z7, Z8, Z9, Za, Zb, Zc, Zd, Ze, Zf, Zg, Zh, Zi, Zj, Zk, Zl, Zm, Zn, Zo, Zp, Zq, Zr, Zs, Zt, Zu, Zv, Zw, Zx, Zy, Zz, V0, V1, V2, V3, V4, V5, V6, V7, V8, V9, Va, Vb, Vc, Vd, Ve, Vf, exists_eq_left', exists_eq_left, Vi, Vj, Vk, Vl, Vm, exists_and_left, Vo, and_true, true_and, if_true, if_false, decide_eq_true_eq, Vu, Vv, Vw, Vx, decide_eq_false_iff_not, reduceCtorEq, not_true_eq_false, not_false_eq_true, decide_true, decide_false]
    refine ⟨by decide, ?_⟩
    refine menu [1, 2, 3, 5, 9, 12] upd_same (by decide) (by rfl) fun le hle => k1 _ _ ?_
    clear k1 R
    try simp only [Y0, Y1, Y2, Y3, Y4, Y5, Y6, Y7, Y8, Y9, Ya, Yb, Yc, Yd, Ye, Yf, Yg, Yh, Yi, Yj, Yk, Yl, Ym, Yn, Yo, Yp, Yq, Yr, Ys, Yt, Yu, Yv, Yw, Yx, Yy, Yz, Z0, Z1, Z2, Z3, Z4, Z5, Z6, Z7, Z8, Z9, Za, Zb, Zc, Zd, Ze, Zf, Zg, Zh, Zi, Zj, Zk, Zl, Zm, Zn, Zo, Zp, Zq, Zr, Zs, Zt, Zu, Zv, Zw, Zx, Zy, Zz, V0, V1, V2, V3, V4, V5, V6, V7, V8, V9, Va, Vb, Vc, Vd, Ve, Vf, exists_eq_left', exists_eq_left, Vi, Vj, Vk, Vl, Vm, exists_and_left, Vo, and_true, true_and, if_true, if_false, decide_eq_true_eq, Vu, Vv, Vw, Vx, decide_eq_false_iff_not, reduceCtorEq, not_true_eq_false, not_false_eq_true, decide_true, decide_false]
    refine ⟨by decide, fun p3 hp3 => ?_⟩
    have S3 := S2.trans (same_upd (o := .lst [.int 1, .int 1, .int 2, .int 3, .int 3, .int 5]) hp3)
    refine mix_at (S3.seq hS) fun i3 l3 u3 => ?_
    try simp only [Y0, Y1, Y2, Y3, Y4, Y5, Y6, Y7, Y8, Y9, Ya, Yb, Yc, Yd, Ye, Yf, Yg, Yh, Yi, Yj, Yk, Yl, Ym, Yn, Yo, Yp, Yq, Yr, Ys, Yt, Yu, Yv, Yw, Yx, Yy, Yz, Z0, Z1, Z2, Z3, Z4, Z5, Z6, Z7, Z8, Z9, Za, Zb, Zc, Zd, Ze, Zf, Zg, Zh, Zi, Zj, Zk, Zl, Zm, Zn, Zo, Zp, Zq, Zr, Zs, Zt, Zu, Zv, Zw, Zx, Zy, Zz, V0, V1, V2, V3, V4, V5, V6, V7, V8, V9, Va, Vb, Vc, Vd, Ve, Vf, exists_eq_left', exists_eq_left, Vi, Vj, Vk, Vl, Vm, exists_and_left, Vo, and_true, true_and, if_true, if_false, decide_eq_true_eq, Vu, Vv, Vw, Vx, decide_eq_false_iff_not, reduceCtorEq, not_true_eq_false, not_false_eq_true, decide_true, decide_false]
    refine ⟨by decide, ?_⟩
    refine menu [1, 1, 2, 3, 3, 5] upd_same (by decide) (by rfl) fun ke hke => ?_
    try simp only [Y0, Y1, Y2, Y3, Y4, Y5, Y6, Y7, Y8, Y9, Ya, Yb, Yc, Yd, Ye, Yf, Yg, Yh, Yi, Yj, Yk, Yl, Ym, Yn, Yo, Yp, Yq, Yr, Ys, Yt, Yu, Yv, Yw, Yx, Yy, Yz, Z0, Z1, Z2, Z3, Z4, Z5, Z6, Z7, Z8, Z9, Za, Zb, Zc, Zd, Ze, Zf, Zg, Zh, Zi, Zj, Zk, Zl, Zm, Zn, Zo, Zp, Zq, Zr, Zs, Zt, Zu, Zv, Zw, Zx, Zy, Zz, V0, V1, V2, V3, V4, V5, V6, V7, V8, V9, Va, Vb, Vc, Vd, Ve, Vf, exists_eq_left', exists_eq_left, Vi, Vj, Vk, Vl, Vm, exists_and_left, Vo, and_true, true_and, if_true, if_false, decide_eq_true_eq, Vu, Vv, Vw, Vx, decide_eq_false_iff_not, reduceCtorEq, not_true_eq_false, not_false_eq_true, decide_true, decide_false]
    refine ⟨by decide, fun p4 hp4 => ?_⟩
    simp only [List.mem_cons, List.not_mem_nil, or_false] at hle hke
    have a0 := Int.emod_nonneg i0 (show (3 : Int) ≠ 0 by decide)
    have b0 := Int.emod_lt_of_pos i0 (show (0 : Int) < 3 by decide)
    have a1 := Int.emod_nonneg i1 (show (3 : Int) ≠ 0 by decide)
    have b1 := Int.emod_lt_of_pos i1 (show (0 : Int) < 3 by decide)
    exact q _ _ _ _ p4 _ ⟨by omega, by omega, by omega, by omega, by omega, by omega, by omega, by omega⟩ (S3.trans (same_upd hp4)) (S3.free hp4) upd_same
theorem wait_val {lo hi le n : Int} (d : 1 ≤ lo) (h1 : le ≤ n * lo) (h2 : n = 0 ∨ (n - 1) * lo < le) (h3 : 1 ≤ le) : n = (le + lo - 1) / lo := by
  have e1 := Int.mul_ediv_add_emod (le + lo - 1) lo
  have e2 := Int.emod_nonneg (le + lo - 1) (show lo ≠ 0 by omega)
  have e3 := Int.emod_lt_of_pos (le + lo - 1) (show 0 < lo by omega)
  generalize (le + lo - 1) / lo = k at e1 ⊢
  generalize (le + lo - 1) % lo = r at e1 e2 e3
  rcases h2 with z | h2
  · subst z
    rw [Int.zero_mul] at h1
    omega
  · rw [Int.sub_mul] at h2
    have c1 : n * lo < (k + 1) * lo := by rw [Int.add_mul, Int.mul_comm k lo]; omega
    have c2 : (k - 1) * lo < n * lo := by rw [Int.sub_mul, Int.mul_comm k lo]; omega
    have d1 : n < k + 1 := Int.lt_of_mul_lt_mul_right c1 (by omega)
    have d2 : k - 1 < n := Int.lt_of_mul_lt_mul_right c2 (by omega)
    omega
theorem ok_law_wait (T : Txt K mg t) : FnOk P w K mg base CX0 1 t.f_law_wait t.d_law_wait ["_law_terms_here"] sp_law_wait := by
  refine T.F_law_wait.ok sc_law_wait (fun vs H Q E h => ?_) (fun cdv A outer s H vs Q E hr h => ?_)
  · obtain ⟨p, lo, hi, le, ke, rfl, _⟩ := h
    rfl
  · obtain ⟨p, lo, hi, le, ke, rfl, hp, d, q⟩ := h
    refine ⟨_, (jss_cons (js_set (i := 1) nc_const sc_law_wait.nd rfl lo_law_wait__law_ticks je_int)
      (jss_cons (js_while PassesOwn.never (jt_cmp jo_lt (je_op jo_mul (je_var (i := 1) nm__law_ticks lo_law_wait__law_ticks rfl) (je_ix jx_tup (je_var (i := 0) nm__law_terms_here lo_law_wait__law_terms_here rfl) je_int (fun _ _ => rfl))) (je_ix jx_tup (je_var (i := 0) nm__law_terms_here lo_law_wait__law_terms_here rfl) je_int (fun _ _ => rfl)) (by decide) (by decide)) (jss_one (js_set (i := 1) nc_bin sc_law_wait.nd rfl lo_law_wait__law_ticks (je_op jo_add (je_var (i := 1) nm__law_ticks lo_law_wait__law_ticks rfl) je_int))))
      (jss_one (js_ret (je_op jo_mul (je_ix jx_tup (je_var (i := 0) nm__law_terms_here lo_law_wait__law_terms_here rfl) je_int (fun _ _ => rfl)) (je_var (i := 1) nm__law_ticks lo_law_wait__law_ticks rfl)))))).h, ?_⟩
    dsimp only [L2.start, List.map_cons, List.map_nil, List.length_cons, List.length_nil, List.cons_append, List.nil_append, List.replicate]
    refine seq_step fun R k1 => ?_
    try simp only [Y0, Y1, Y2, Y3, Y4, Y5, Y6, Y7, Y8, Y9, Ya, Yb, Yc, Yd, Ye, Yf, Yg, Yh, Yi, Yj, Yk, Yl, Ym, Yn, Yo, Yp, Yq, Yr, Ys, Yt, Yu, Yv, Yw, Yx, Yy, Yz, Z0, Z1, Z2, Z3, Z4, Z5, Z6, Z7, Z8, Z9, Za, Zb, Zc, Zd, Ze, Zf, Zg, Zh, Zi, Zj, Zk, Zl, Zm, Zn, Zo, Zp, Zq, Zr, Zs, Zt, Zu, Zv, Zw, Zx, Zy, Zz, V0, V1, V2, V3, V4, V5, V6, V7, V8, V9, Va, Vb, Vc, Vd, Ve, Vf, exists_eq_left', exists_eq_left, Vi, Vj, Vk, Vl, Vm, exists_and_left, Vo, and_true, true_and, if_true, if_false, decide_eq_true_eq, Vu, Vv, Vw, Vx, decide_eq_false_iff_not, reduceCtorEq, not_true_eq_false, not_false_eq_true, decide_true, decide_false]
    refine k1 _ _ ?_
    clear k1 R
    refine seq_step fun R k1 => ?_
    obtain ⟨dl1, dl2, dh1, dh2, de1, de2, dk1, dk2⟩ := d
    refine ⟨fun m σ H' => ∃ n : Int, σ = [some (.ref p), some (.int n)] ∧ H' = H ∧ 0 ≤ n ∧ n ≤ 12 ∧ (n = 0 ∨ (n - 1) * lo < le) ∧ m = (le - n).toNat, ⟨_, 0, rfl, rfl, by omega, by omega, .inl rfl, rfl⟩, ?_⟩
    rintro m σ H' ⟨n, rfl, rfl, n0, n12, hn, rfl⟩
    try simp only [Y0, Y1, Y2, Y3, Y4, Y5, Y6, Y7, Y8, Y9, Ya, Yb, Yc, Yd, Ye, Yf, Yg, Yh, Yi, Yj, Yk, Yl, Ym, Yn, Yo, Yp, Yq, Yr, Ys, Yt, Yu, Yv, Yw, Yx, Yy, Yz, Z0, Z1, Z2, Z3, Z4, Z5, Z6, Z7, Z8, Z9, Za, Zb, Zc, Zd, Ze, Zf, Zg, Zh, Zi, Zj, Zk, Zl, Zm, Zn, Zo, Zp, Zq, Zr, Zs, Zt, Zu, Zv, Zw, Zx, Zy, Zz, V0, V1, V2, V3, V4, V5, V6, V7, V8, V9, Va, Vb, Vc, Vd, Ve, Vf, exists_eq_left', exists_eq_left, Vi, Vj, Vk, Vl, Vm, exists_and_left, Vo, and_true, true_and, if_true, if_false, decide_eq_true_eq, Vu, Vv, Vw, Vx, decide_eq_false_iff_not, reduceCtorEq, not_true_eq_false, not_false_eq_true, decide_true, decide_false]
    refine rd_ixT (SqT.of hp) (v := .int lo) rfl ?_
    try simp only [Y0, Y1, Y2, Y3, Y4, Y5, Y6, Y7, Y8, Y9, Ya, Yb, Yc, Yd, Ye, Yf, Yg, Yh, Yi, Yj, Yk, Yl, Ym, Yn, Yo, Yp, Yq, Yr, Ys, Yt, Yu, Yv, Yw, Yx, Yy, Yz, Z0, Z1, Z2, Z3, Z4, Z5, Z6, Z7, Z8, Z9, Za, Zb, Zc, Zd, Ze, Zf, Zg, Zh, Zi, Zj, Zk, Zl, Zm, Zn, Zo, Zp, Zq, Zr, Zs, Zt, Zu, Zv, Zw, Zx, Zy, Zz, V0, V1, V2, V3, V4, V5, V6, V7, V8, V9, Va, Vb, Vc, Vd, Ve, Vf, exists_eq_left', exists_eq_left, Vi, Vj, Vk, Vl, Vm, exists_and_left, Vo, and_true, true_and, if_true, if_false, decide_eq_true_eq, Vu, Vv, Vw, Vx, decide_eq_false_iff_not, reduceCtorEq, not_true_eq_false, not_false_eq_true, decide_true, decide_false]
    refine ⟨.inl ⟨by omega, by omega⟩, rd_ixT (SqT.of hp) (v := .int le) rfl ?_⟩
    try simp only [Y0, Y1, Y2, Y3, Y4, Y5, Y6, Y7, Y8, Y9, Ya, Yb, Yc, Yd, Ye, Yf, Yg, Yh, Yi, Yj, Yk, Yl, Ym, Yn, Yo, Yp, Yq, Yr, Ys, Yt, Yu, Yv, Yw, Yx, Yy, Yz, Z0, Z1, Z2, Z3, Z4, Z5, Z6, Z7, Z8, Z9, Za, Zb, Zc, Zd, Ze, Zf, Zg, Zh, Zi, Zj, Zk, Zl, Zm, Zn, Zo, Zp, Zq, Zr, Zs, Zt, Zu, Zv, Zw, Zx, Zy, Zz, V0, V1, V2, V3, V4, V5, V6, V7, V8, V9, Va, Vb, Vc, Vd, Ve, Vf, exists_eq_left', exists_eq_left, Vi, Vj, Vk, Vl, Vm, exists_and_left, Vo, and_true, true_and, if_true, if_false, decide_eq_true_eq, Vu, Vv, Vw, Vx, decide_eq_false_iff_not, reduceCtorEq, not_true_eq_false, not_false_eq_true, decide_true, decide_false]
    split
    · rename_i hlt
      have hnl : n < le := by
        have : n * 1 ≤ n * lo := Int.mul_le_mul_of_nonneg_left dl1 n0
        omega
      refine ⟨fun σ' H'' => σ' = [some (.ref p), some (.int (n + 1))] ∧ H'' = H', ?_, rfl, rfl⟩
      rintro σ' H'' ⟨rfl, rfl⟩
      refine ⟨(le - (n + 1)).toNat, by omega, n + 1, rfl, rfl, by omega, by omega, .inr ?_, rfl⟩
      rw [Int.add_sub_cancel]
      exact hlt
    · rename_i hge
      refine k1 _ _ ?_
      try simp only [Y0, Y1, Y2, Y3, Y4, Y5, Y6, Y7, Y8, Y9, Ya, Yb, Yc, Yd, Ye, Yf, Yg, Yh, Yi, Yj, Yk, Yl, Ym, Yn, Yo, Yp, Yq, Yr, Ys, Yt, Yu, Yv, Yw, Yx, Yy, Yz, Z0, Z1, Z2, Z3, Z4, Z5, Z6, Z7, Z8, Z9, Za, Zb, Zc, Zd, Ze, Zf, Zg, Zh, Zi, Zj, Zk, Zl, Zm, Zn, Zo, Zp, Zq, Zr, Zs, Zt, Zu, Zv, Zw, Zx, Zy, Zz, V0, V1, V2, V3, V4, V5, V6, V7, V8, V9, Va, Vb, Vc, Vd, Ve, Vf, exists_eq_left', exists_eq_left, Vi, Vj, Vk, Vl, Vm, exists_and_left, Vo, and_true, true_and, if_true, if_false, decide_eq_true_eq, Vu, Vv, Vw, Vx, decide_eq_false_iff_not, reduceCtorEq, not_true_eq_false, not_false_eq_true, decide_true, decide_false]
      refine rd_ixT (SqT.of hp) (v := .int hi) rfl ?_
      try simp only [Y0, Y1, Y2, Y3, Y4, Y5, Y6, Y7, Y8, Y9, Ya, Yb, Yc, Yd, Ye, Yf, Yg, Yh, Yi, Yj, Yk, Yl, Ym, Yn, Yo, Yp, Yq, Yr, Ys, Yt, Yu, Yv, Yw, Yx, Yy, Yz, Z0, Z1, Z2, Z3, Z4, Z5, Z6, Z7, Z8, Z9, Za, Zb, Zc, Zd, Ze, Zf, Zg, Zh, Zi, Zj, Zk, Zl, Zm, Zn, Zo, Zp, Zq, Zr, Zs, Zt, Zu, Zv, Zw, Zx, Zy, Zz, V0, V1, V2, V3, V4, V5, V6, V7, V8, V9, Va, Vb, Vc, Vd, Ve, Vf, exists_eq_left', exists_eq_left, Vi, Vj, Vk, Vl, Vm, exists_and_left, Vo, and_true, true_and, if_true, if_false, decide_eq_true_eq, Vu, Vv, Vw, Vx, decide_eq_false_iff_not, reduceCtorEq, not_true_eq_false, not_false_eq_true, decide_true, decide_false]
      refine ⟨.inl ⟨by omega, by omega⟩, ?_⟩
      have e : n = (le + lo - 1) / lo := wait_val (hi := hi) dl1 (by omega) hn de1
      have e2 : hi * n = waitOf lo hi le := by
        unfold waitOf
        rw [← e, Int.mul_comm]
      rw [e2]
      exact q
end
end K11

set_option Elab.async false
set_option linter.all false
set_option maxRecDepth 100000
set_option maxHeartbeats 4000000
namespace K11
open PySem L2
open L2 renaming rEq_int → Y0, rNe_int → Y1, rNe_bl → Y2, rEq_str → Y3, rEq_noni → Y4, rNe_noni → Y5, tPairs → Y6, tDisp → Y7, tAsg → Y8, gName → Y9, tOp → Ya, tUn → Yb, tVar → Yc, tC → Yd, rI → Ye, rI0 → Yf, rU → Yg, tCall → Yh, tCons → Yi, tNil → Yj, tRet → Yk, tRetN → Yl, tDrop → Ym, tNext → Yn, tIfS → Yo, tTest → Yp, tChain → Yq, tChain3 → Yr, tCB → Ys, tNot → Yt, tAnd → Yu, tOr → Yv, tAndV → Yw, tOrV → Yx, tNotV → Yy, tIf → Yz, tB → Z0, tIsN → Z1, tNotN → Z2, tTup → Z3, tLst → Z4, tTru → Z5, xFld → Z6, xNotN → Z7, tAug → Z8, ipI → Z9, sFldAug_eq → Za, tDPop1 → Zb, tSortR → Zc, rEq_bl → Zd, rEq_inon → Ze, rNe_inon → Zf, xCall → Zg, xMake → Zh, xMeth → Zi, xIf → Zj, xSet → Zk, xExpr → Zl, xRet → Zm, xRaise → Zn, xRaise0 → Zo, tFld_eq → Zp, sFld_eq → Zq, tMeth_eq → Zr, tMake → Zs, tPar → Zt, tDGet_eq → Zu, sDPut_eq → Zv, tDIn_eq → Zw, tDNotIn_eq → Zx, tTrue → Zy, tComp → Zz, caps → V0, tBM → V1, cxOf_K → V2, start → V3
open _root_.List renaming map_cons → V4, map_nil → V5, length_cons → V6, length_nil → V7, replicate → V8, cons_append → Va, nil_append → Vb, append_nil → Vc, getElem?_cons_zero → Vd, getElem?_cons_succ → Ve, set_cons_zero → Vl, set_cons_succ → Vm
open _root_.Nat renaming sub_self → V9
open _root_.Option.some renaming injEq → Vf
open L2.V.int renaming injEq → Vi
open L2.V.bl renaming injEq → Vj
open L2.V.ref renaming injEq → Vk
open _root_.List.cons renaming injEq → Vo
open _root_.Bool renaming false_eq_true → Vu, not_true → Vv, not_false → Vw, not_eq_true' → Vx
/-! many things in one heap, each with objects of its own -/
/-- from H to H' nothing changed but the objects S of one thing, which are now S' -/
def Fr (H H' : Hp) (S S' : List Addr) : Prop := (∀ x o, H x = some o → x ∉ S → H' x = some o) ∧ ∀ x, x ∈ S' → x ∈ S ∨ H x = none
theorem fr_new {H H' : Hp} {B : List Addr} (s : Same H H') (h : ∀ x, x ∈ B → H x = none) : Fr H H' [] B := ⟨fun x o e _ => s x o e, fun x hx => .inr (h x hx)⟩
/-- what nobody changes once it stands: a tuple, terms -/
def Fx (t : Adr) (o : HO) : Prop := (∃ xs, o = .tup xs) ∨ ∃ dx lo hi le ke, o = .ins t.Terms dx (terms lo hi le ke)
theorem fx_tup {t : Adr} {xs : List V} : Fx t (.tup xs) := .inl ⟨xs, rfl⟩
/-- Th speaks of the objects S and of fixed ones alone -/
structure Foot (t : Adr) (S : List Addr) (Th : Hp → Prop) : Prop where
  some : ∀ H, Th H → ∀ x, x ∈ S → ∃ o, H x = some o ∧ ¬ Fx t o
  frame : ∀ H H', Th H → (∀ x o, H x = Option.some o → x ∈ S → H' x = Option.some o) → (∀ x o, H x = Option.some o → Fx t o → H' x = Option.some o) → Th H'
structure Fam (t : Adr) (H : Hp) (S : Nat → List Addr) (Th : Nat → Hp → Prop) : Prop where
  th : ∀ i, Th i H
  ft : ∀ i, Foot t (S i) (Th i)
  dj : ∀ i j, i ≠ j → ∀ x, x ∈ S i → x ∉ S j
def atS {α : Type} (f : Nat → α) (i : Nat) (a : α) : Nat → α := fun j => if j = i then a else f j
theorem atS_same {α : Type} {f : Nat → α} {i : Nat} {a : α} : atS f i a i = a := if_pos rfl
theorem atS_ne {α : Type} {f : Nat → α} {i j : Nat} {a : α} (h : j ≠ i) : atS f i a j = f j := if_neg h
theorem Foot.none {t : Adr} : Foot t [] (fun _ => True) := ⟨fun _ _ x hx => (by cases hx), fun _ _ _ _ _ => trivial⟩
section
variable {t : Adr} {H H' : Hp} {S : Nat → List Addr} {Th : Nat → Hp → Prop} {i : Nat} {S' : List Addr} {Th' : Hp → Prop}
theorem Fam.fx (F : Fam t H S Th) (f : Fr H H' (S i) S') : ∀ x o, H x = some o → Fx t o → H' x = some o := fun x o e fo => f.1 _ _ e fun hx => by
  obtain ⟨o, e1, e2⟩ := (F.ft i).some H (F.th i) x hx
  rw [e] at e1
  cases e1
  exact e2 fo
theorem Fam.step (F : Fam t H S Th) (f : Fr H H' (S i) S') (ft : Foot t S' Th') (h : Th' H') : Fam t H' (atS S i S') (atS Th i Th') := by
  have tf := F.fx f
  refine ⟨fun j => ?_, fun j => ?_, fun j k hne x hx hk => ?_⟩
  · by_cases e : j = i
    · subst e
      rw [atS_same]
      exact h
    · rw [atS_ne e]
      exact (F.ft j).frame H H' (F.th j) (fun x o e1 hx => f.1 _ _ e1 fun hi => F.dj j i e x hx hi) tf
  · by_cases e : j = i
    · subst e
      rw [atS_same, atS_same]
      exact ft
    · rw [atS_ne e, atS_ne e]
      exact F.ft j
  · have new : ∀ k x, k ≠ i → x ∈ S' → x ∈ S k → False := fun k x hne hx hk => by
      rcases f.2 x hx with y | y
      · exact F.dj i k hne.symm x y hk
      · obtain ⟨o, e, _⟩ := (F.ft k).some H (F.th k) x hk
        rw [e] at y
        cases y
    by_cases e : j = i
    · subst e
      rw [atS_same] at hx
      rw [atS_ne hne.symm] at hk
      exact new k x hne.symm hx hk
    · rw [atS_ne e] at hx
      by_cases e2 : k = i
      · subst e2
        rw [atS_same] at hk
        exact new j x e hk hx
      · rw [atS_ne e2] at hk
        exact F.dj j k hne x hx hk
theorem Fam.same (F : Fam t H S Th) (f : Same H H') : Fam t H' S Th :=
  ⟨fun j => (F.ft j).frame H H' (F.th j) (fun x o e _ => f x o e) fun x o e _ => f x o e, F.ft, F.dj⟩
/-- the same family, said otherwise -/
theorem Fam.as {S2 : Nat → List Addr} {Th2 : Nat → Hp → Prop} (F : Fam t H S Th) (e1 : ∀ i, S i = S2 i) (e2 : ∀ i, Th i = Th2 i) : Fam t H S2 Th2 := by
  have a : S = S2 := funext e1
  have b : Th = Th2 := funext e2
  rw [← a, ← b]
  exact F
theorem Fam.nil : Fam t H (fun _ => []) (fun _ _ => True) := ⟨fun _ => trivial, fun _ => Foot.none, fun _ _ _ _ h => by cases h⟩
end
/-- a list of the caller's as a thing of the family -/
theorem sq_thing {t : Adr} {K : PySem.W.Frag} {H : Hp} {a : Addr} {xs : List V} (h : SqL K H a xs) : ∃ (S : List Addr) (Th : Hp → Prop), Foot t S Th ∧ Th H ∧ (∀ H', Th H' → SqL K H' a xs) ∧ ∀ x, x ∈ S → ∃ o, H x = some o := by
  rcases h with h | h
  · refine ⟨[a], fun H => Rd H a (.lst xs), ⟨fun H1 h1 x hx => ?_, fun H1 H2 h1 f _ => ?_⟩, h, fun H' h' => .inl h', fun x hx => ?_⟩
    · rw [List.mem_singleton] at hx
      subst hx
      rcases h1 with h1 | ⟨o, h1⟩
      · exact ⟨_, h1, by rintro (⟨_, z⟩ | ⟨_, _, _, _, _, z⟩) <;> cases z⟩
      · exact ⟨_, h1, by rintro (⟨_, z⟩ | ⟨_, _, _, _, _, z⟩) <;> cases z⟩
    · rcases h1 with h1 | ⟨o, h1⟩
      · exact .inl (f _ _ h1 (List.mem_singleton.mpr rfl))
      · exact .inr ⟨o, f _ _ h1 (List.mem_singleton.mpr rfl)⟩
    · rw [List.mem_singleton] at hx
      subst hx
      rcases h with h | ⟨o, h⟩
      · exact ⟨_, h⟩
      · exact ⟨_, h⟩
  · exact ⟨[], fun _ => True, Foot.none, trivial, fun H' _ => .inr h, fun x hx => by cases hx⟩
theorem Fam.solo {t : Adr} {H : Hp} {a : List Addr} {x : Hp → Prop} (ft : Foot t a x) (h : x H) : Fam t H (atS (fun _ => []) 0 a) (atS (fun _ _ => True) 0 x) := by
  refine ⟨fun i => ?_, fun i => ?_, fun i j hne y hy hj => ?_⟩
  · by_cases e : i = 0
    · rw [e, atS_same]; exact h
    · rw [atS_ne e]; exact trivial
  · by_cases e : i = 0
    · rw [e, atS_same, atS_same]; exact ft
    · rw [atS_ne e, atS_ne e]; exact Foot.none
  · by_cases e : i = 0
    · rw [atS_ne fun z => hne (e.trans z.symm)] at hj
      cases hj
    · rw [atS_ne e] at hy
      cases hy
/-! three things -/
def S3 (a b c : List Addr) : Nat → List Addr
  | 0 => a
  | 1 => b
  | 2 => c
  | _ => []
def T3 (a b c : Hp → Prop) : Nat → Hp → Prop
  | 0 => a
  | 1 => b
  | 2 => c
  | _ => fun _ => True
section
variable {t : Adr} {H H' : Hp} {a b c s : List Addr} {x y z u : Hp → Prop}
theorem Fam.put0 (F : Fam t H (S3 a b c) (T3 x y z)) (f : Fr H H' a s) (ft : Foot t s u) (h : u H') : Fam t H' (S3 s b c) (T3 u y z) :=
  (F.step (i := 0) f ft h).as (fun i => by rcases i with _ | _ | _ | i <;> rfl) (fun i => by rcases i with _ | _ | _ | i <;> rfl)
theorem Fam.put1 (F : Fam t H (S3 a b c) (T3 x y z)) (f : Fr H H' b s) (ft : Foot t s u) (h : u H') : Fam t H' (S3 a s c) (T3 x u z) :=
  (F.step (i := 1) f ft h).as (fun i => by rcases i with _ | _ | _ | i <;> rfl) (fun i => by rcases i with _ | _ | _ | i <;> rfl)
theorem Fam.put2 (F : Fam t H (S3 a b c) (T3 x y z)) (f : Fr H H' c s) (ft : Foot t s u) (h : u H') : Fam t H' (S3 a b s) (T3 x y u) :=
  (F.step (i := 2) f ft h).as (fun i => by rcases i with _ | _ | _ | i <;> rfl) (fun i => by rcases i with _ | _ | _ | i <;> rfl)
end
end K11

set_option Elab.async false
set_option linter.all false
set_option maxRecDepth 100000
set_option maxHeartbeats 4000000
namespace K11
open PySem L2
open L2 renaming rEq_int → Y0, rNe_int → Y1, rNe_bl → Y2, rEq_str → Y3, rEq_noni → Y4, rNe_noni → Y5, tPairs → Y6, tDisp → Y7, tAsg → Y8, gName → Y9, tOp → Ya, tUn → Yb, tVar → Yc, tC → Yd, rI → Ye, rI0 → Yf, rU → Yg, tCall → Yh, tCons → Yi, tNil → Yj, tRet → Yk, tRetN → Yl, tDrop → Ym, tNext → Yn, tIfS → Yo, tTest → Yp, tChain → Yq, tChain3 → Yr, tCB → Ys, tNot → Yt, tAnd → Yu, tOr → Yv, tAndV → Yw, tOrV → Yx, tNotV → Yy, tIf → Yz, tB → Z0, tIsN → Z1, tNotN → Z2, tTup → Z3, tLst → Z4, tTru → Z5, xFld → Z6, xNotN → Z7, tAug → Z8, ipI → Z9, sFldAug_eq → Za, tDPop1 → Zb, tSortR → Zc, rEq_bl → Zd, rEq_inon → Ze, rNe_inon → Zf, xCall → Zg, xMake → Zh, xMeth → Zi, xIf → Zj, xSet → Zk, xExpr → Zl, xRet → Zm, xRaise → Zn, xRaise0 → Zo, tFld_eq → Zp, sFld_eq → Zq, tMeth_eq → Zr, tMake → Zs, tPar → Zt, tDGet_eq → Zu, sDPut_eq → Zv, tDIn_eq → Zw, tDNotIn_eq → Zx, tTrue → Zy, tComp → Zz, caps → V0, tBM → V1, cxOf_K → V2, start → V3
open _root_.List renaming map_cons → V4, map_nil → V5, length_cons → V6, length_nil → V7, replicate → V8, cons_append → Va, nil_append → Vb, append_nil → Vc, getElem?_cons_zero → Vd, getElem?_cons_succ → Ve, set_cons_zero → Vl, set_cons_succ → Vm
open _root_.Nat renaming sub_self → V9
open _root_.Option.some renaming injEq → Vf
open L2.V.int renaming injEq → Vi
open L2.V.bl renaming injEq → Vj
open L2.V.ref renaming injEq → Vk
open _root_.List.cons renaming injEq → Vo
open _root_.Bool renaming false_eq_true → Vu, not_true → Vv, not_false → Vw, not_eq_true' → Vx
/-! the program's readings: one that goes back is refused -/
def sp_gone_on (t : Adr) : Sp := fun vs H Q E => ∃ latest clock : Int, vs = [.int latest, .int clock] ∧ Small latest ∧ Small clock ∧ (clock < latest → E (.ref t.Back) none H) ∧ (¬ clock < latest → Q (.int clock) H)
section
variable {P : Program} {w : World} {K : PySem.W.Frag} {mg : Str → Option Value} {base : Heap} {t : Adr}
theorem ok_gone_on (T : Txt K mg t) : FnOk P w K mg base (CXF P w) 1 t.f_gone_on t.d_gone_on ["latest", "clock"] (sp_gone_on t) := by
  refine T.F_gone_on.okX sc_gone_on (fun vs H Q E h => ?_) (fun cdv A outer s H vs Q E hr h => ?_)
  · obtain ⟨latest, clock, rfl, _⟩ := h
    rfl
  · obtain ⟨latest, clock, rfl, s1, s2, qe, q⟩ := h
    refine ⟨_, (jssx_cons (jsx_if (jt_cmp jo_lt (je_var (i := 1) nm_clock lo_gone_on_clock rfl) (je_var (i := 0) nm_latest lo_gone_on_latest rfl) (by decide) (by decide)) (jssx_one (jsx_raise nm_Back rfl lo_gone_on_Back T.m_Back T.n_Back T.x_Back PySem.F.excBase_ValueError sx_join ns_nil (ja_cons sx_join (je_fstr (jfs_cons (jf_str (by decide)) (jfs_cons (jf_int (je_var (i := 1) nm_clock lo_gone_on_clock rfl)) (jfs_cons (jf_str (by decide)) (jfs_cons (jf_int (je_var (i := 0) nm_latest lo_gone_on_latest rfl)) (jfs_cons (jf_str (by decide)) jfs_nil rfl) rfl) rfl) rfl) rfl) (by decide)) ja_nil))) jssx_nil)
      (jssx_one (jx (js_ret (je_var (i := 1) nm_clock lo_gone_on_clock rfl))))).h, ?_⟩
    dsimp only [L2.start, List.map_cons, List.map_nil, List.length_cons, List.length_nil, List.cons_append, List.nil_append, List.replicate]
    refine xseq_step fun R k => ?_
    try simp only [Y0, Y1, Y2, Y3, Y4, Y5, Y6, Y7, Y8, Y9, Ya, Yb, Yc, Yd, Ye, Yf, Yg, Yh, Yi, Yj, Yk, Yl, Ym, Yn, Yo, Yp, Yq, Yr, Ys, Yt, Yu, Yv, Yw, Yx, Yy, Yz, Z0, Z1, Z2, Z3, Z4, Z5, Z6, Z7, Z8, Z9, Za, Zb, Zc, Zd, Ze, Zf, Zg, Zh, Zi, Zj, Zk, Zl, Zm, Zn, Zo, Zp, Zq, Zr, Zs, Zt, Zu, Zv, Zw, Zx, Zy, Zz, V0, V1, V2, V3, V4, V5, V6, V7, V8, V9, Va, Vb, Vc, Vd, Ve, Vf, exists_eq_left', exists_eq_left, Vi, Vj, Vk, Vl, Vm, exists_and_left, Vo, and_true, true_and, if_true, if_false, decide_eq_true_eq, Vu, Vv, Vw, Vx, decide_eq_false_iff_not, reduceCtorEq, not_true_eq_false, not_false_eq_true, decide_true, decide_false]
    split
    · rename_i h1
      exact ⟨s2.log, s1.log, fun _ => ⟨by decide, qe h1⟩⟩
    · rename_i h1
      refine k _ _ ?_
      try simp only [Y0, Y1, Y2, Y3, Y4, Y5, Y6, Y7, Y8, Y9, Ya, Yb, Yc, Yd, Ye, Yf, Yg, Yh, Yi, Yj, Yk, Yl, Ym, Yn, Yo, Yp, Yq, Yr, Ys, Yt, Yu, Yv, Yw, Yx, Yy, Yz, Z0, Z1, Z2, Z3, Z4, Z5, Z6, Z7, Z8, Z9, Za, Zb, Zc, Zd, Ze, Zf, Zg, Zh, Zi, Zj, Zk, Zl, Zm, Zn, Zo, Zp, Zq, Zr, Zs, Zt, Zu, Zv, Zw, Zx, Zy, Zz, V0, V1, V2, V3, V4, V5, V6, V7, V8, V9, Va, Vb, Vc, Vd, Ve, Vf, exists_eq_left', exists_eq_left, Vi, Vj, Vk, Vl, Vm, exists_and_left, Vo, and_true, true_and, if_true, if_false, decide_eq_true_eq, Vu, Vv, Vw, Vx, decide_eq_false_iff_not, reduceCtorEq, not_true_eq_false, not_false_eq_true, decide_true, decide_false]
      exact q h1
end
end K11

set_option Elab.async false
set_option linter.all false
set_option maxRecDepth 100000
set_option maxHeartbeats 4000000
namespace K11
open PySem L2
open L2 renaming rEq_int → Y0, rNe_int → Y1, rNe_bl → Y2, rEq_str → Y3, rEq_noni → Y4, rNe_noni → Y5, tPairs → Y6, tDisp → Y7, tAsg → Y8, gName → Y9, tOp → Ya, tUn → Yb, tVar → Yc, tC → Yd, rI → Ye, rI0 → Yf, rU → Yg, tCall → Yh, tCons → Yi, tNil → Yj, tRet → Yk, tRetN → Yl, tDrop → Ym, tNext → Yn, tIfS → Yo, tTest → Yp, tChain → Yq, tChain3 → Yr, tCB → Ys, tNot → Yt, tAnd → Yu, tOr → Yv, tAndV → Yw, tOrV → Yx, tNotV → Yy, tIf → Yz, tB → Z0, tIsN → Z1, tNotN → Z2, tTup → Z3, tLst → Z4, tTru → Z5, xFld → Z6, xNotN → Z7, tAug → Z8, ipI → Z9, sFldAug_eq → Za, tDPop1 → Zb, tSortR → Zc, rEq_bl → Zd, rEq_inon → Ze, rNe_inon → Zf, xCall → Zg, xMake → Zh, xMeth → Zi, xIf → Zj, xSet → Zk, xExpr → Zl, xRet → Zm, xRaise → Zn, xRaise0 → Zo, tFld_eq → Zp, sFld_eq → Zq, tMeth_eq → Zr, tMake → Zs, tPar → Zt, tDGet_eq → Zu, sDPut_eq → Zv, tDIn_eq → Zw, tDNotIn_eq → Zx, tTrue → Zy, tComp → Zz, caps → V0, tBM → V1, cxOf_K → V2, start → V3
open _root_.List renaming map_cons → V4, map_nil → V5, length_cons → V6, length_nil → V7, replicate → V8, cons_append → Va, nil_append → Vb, append_nil → Vc, getElem?_cons_zero → Vd, getElem?_cons_succ → Ve, set_cons_zero → Vl, set_cons_succ → Vm
open _root_.Nat renaming sub_self → V9
open _root_.Option.some renaming injEq → Vf
open L2.V.int renaming injEq → Vi
open L2.V.bl renaming injEq → Vj
open L2.V.ref renaming injEq → Vk
open _root_.List.cons renaming injEq → Vo
open _root_.Bool renaming false_eq_true → Vu, not_true → Vv, not_false → Vw, not_eq_true' → Vx
/-! a keeper as the document has it, without a heap -/
/-- to whom it last let: the name, the number's tuple, the number -/
structure Let where
  name : Int
  at_ : Addr
  a : Int
  b : Int
def nmV : Option Let → V
  | none => .non
  | some l => .int l.name
/-- a number is less, is as great -/
def ltN (a b c d : Int) : Prop := a < c ∨ a = c ∧ b < d
instance (a b c d : Int) : Decidable (ltN a b c d) := by unfold ltN; infer_instance
structure KW where
  c : Int
  u : Int
  st : Option Let
/-- what the law's own keeper answers, and how it stands behind it -/
def due (k : KW) (wt way clock name : Int) (q : Addr) (a b : Int) : V × KW :=
  if clock < k.c then (.str "back", k)
  else if way = 2 then ((if clock < k.u then nmV k.st else .non), { k with c := clock })
  else if way = 1 then (.non, match k.st with
    | some l => if l.name = name ∧ ¬ ltN a b l.a l.b then { k with c := clock, u := min k.u clock } else { k with c := clock }
    | none => { k with c := clock })
  else if clock < k.u then (match k.st with
    | none => (.bl false, { k with c := clock })
    | some l => if l.name ≠ name ∨ ltN a b l.a l.b then (.bl false, { k with c := clock }) else if a = l.a ∧ b = l.b then (.bl true, { k with c := clock }) else (.bl true, ⟨clock, clock + wt, some ⟨name, q, a, b⟩⟩))
  else (.bl true, ⟨clock, clock + wt, some ⟨name, q, a, b⟩⟩)
end K11

set_option Elab.async false
set_option linter.all false
set_option maxRecDepth 100000
set_option maxHeartbeats 4000000
namespace K11
open PySem L2
open L2 renaming rEq_int → Y0, rNe_int → Y1, rNe_bl → Y2, rEq_str → Y3, rEq_noni → Y4, rNe_noni → Y5, tPairs → Y6, tDisp → Y7, tAsg → Y8, gName → Y9, tOp → Ya, tUn → Yb, tVar → Yc, tC → Yd, rI → Ye, rI0 → Yf, rU → Yg, tCall → Yh, tCons → Yi, tNil → Yj, tRet → Yk, tRetN → Yl, tDrop → Ym, tNext → Yn, tIfS → Yo, tTest → Yp, tChain → Yq, tChain3 → Yr, tCB → Ys, tNot → Yt, tAnd → Yu, tOr → Yv, tAndV → Yw, tOrV → Yx, tNotV → Yy, tIf → Yz, tB → Z0, tIsN → Z1, tNotN → Z2, tTup → Z3, tLst → Z4, tTru → Z5, xFld → Z6, xNotN → Z7, tAug → Z8, ipI → Z9, sFldAug_eq → Za, tDPop1 → Zb, tSortR → Zc, rEq_bl → Zd, rEq_inon → Ze, rNe_inon → Zf, xCall → Zg, xMake → Zh, xMeth → Zi, xIf → Zj, xSet → Zk, xExpr → Zl, xRet → Zm, xRaise → Zn, xRaise0 → Zo, tFld_eq → Zp, sFld_eq → Zq, tMeth_eq → Zr, tMake → Zs, tPar → Zt, tDGet_eq → Zu, sDPut_eq → Zv, tDIn_eq → Zw, tDNotIn_eq → Zx, tTrue → Zy, tComp → Zz, caps → V0, tBM → V1, cxOf_K → V2, start → V3
open _root_.List renaming map_cons → V4, map_nil → V5, length_cons → V6, length_nil → V7, replicate → V8, cons_append → Va, nil_append → Vb, append_nil → Vc, getElem?_cons_zero → Vd, getElem?_cons_succ → Ve, set_cons_zero → Vl, set_cons_succ → Vm
open _root_.Nat renaming sub_self → V9
open _root_.Option.some renaming injEq → Vf
open L2.V.int renaming injEq → Vi
open L2.V.bl renaming injEq → Vj
open L2.V.ref renaming injEq → Vk
open _root_.List.cons renaming injEq → Vo
open _root_.Bool renaming false_eq_true → Vu, not_true → Vv, not_false → Vw, not_eq_true' → Vx
/-! the program's keeper -/
abbrev kf (wt latest : Int) (nm nu : V) (over : Int) : List (Str × V) := flds_Keeper (.int wt) (.int latest) nm nu (.int over)
/-- what was let last, as the fields say it -/
def Lets (H : Hp) (nm nu : V) : Option Let → Prop
  | none => nm = .non
  | some l => nm = .int l.name ∧ ∃ r, nu = .ref r ∧ H r = some (.tup [.int l.a, .int l.b])
theorem lets_eq {H H' : Hp} {nm nu : V} {st : Option Let} (f : ∀ r xs, H r = some (.tup xs) → H' r = some (.tup xs)) (h : Lets H nm nu st) : Lets H' nm nu st := by
  cases st with
  | none => exact h
  | some l =>
    obtain ⟨e1, r, e2, e3⟩ := h
    exact ⟨e1, r, e2, f _ _ e3⟩
/-- the keeper stands in the heap as the document's keeper k does; S are its own objects -/
def KAt (t : Adr) (H : Hp) (p : Addr) (S : List Addr) (wt : Int) (k : KW) : Prop := ∃ (dx : Addr) (over : Int) (nm nu : V), S = [p] ∧ H p = some (.ins t.Keeper dx (kf wt k.c nm nu over)) ∧ Lets H nm nu k.st ∧ (k.c < k.u → over = k.u) ∧ (¬ k.c < k.u → over ≤ k.c) ∧ Small k.c
theorem KAt.frame {t : Adr} {H H' : Hp} {p : Addr} {S : List Addr} {wt : Int} {k : KW} (h : KAt t H p S wt k) (f : ∀ x o, H x = some o → x ∈ S → H' x = some o) (ft : ∀ x o, H x = some o → Fx t o → H' x = some o) : KAt t H' p S wt k := by
  obtain ⟨dx, over, nm, nu, rfl, h1, h2, h3⟩ := h
  exact ⟨dx, over, nm, nu, rfl, f _ _ h1 (List.mem_singleton.mpr rfl), lets_eq (fun r xs e => ft _ _ e fx_tup) h2, h3⟩
theorem KAt.some {t : Adr} {H : Hp} {p : Addr} {S : List Addr} {wt : Int} {k : KW} (h : KAt t H p S wt k) : p ∈ S ∧ ∀ x, x ∈ S → ∃ o, H x = Option.some o ∧ ¬ Fx t o := by
  obtain ⟨dx, over, nm, nu, rfl, h1, _⟩ := h
  refine ⟨List.mem_singleton.mpr rfl, fun x hx => ?_⟩
  rw [List.mem_singleton] at hx
  subst hx
  exact ⟨_, h1, by
    rintro (⟨_, z⟩ | ⟨_, _, _, _, _, z⟩)
    · cases z
    · injection z with _ _ z
      exact absurd (congrArg List.length z) (show ¬ (5 : Nat) = 4 by decide)⟩
theorem KAt.meth {t : Adr} {H : Hp} {p : Addr} {S : List Addr} {wt : Int} {k : KW} (h : KAt t H p S wt k) : ∃ dx fs, H p = Option.some (.ins t.Keeper dx fs) ∧ fs.lookup ("asked" : Str) = none ∧ fs.lookup ("freed" : Str) = none ∧ fs.lookup ("let_to" : Str) = none := by
  obtain ⟨dx, over, nm, nu, rfl, h1, _⟩ := h
  exact ⟨_, _, h1, (by rfl), (by rfl), (by rfl)⟩
theorem KAt.foot {t : Adr} {p : Addr} {S : List Addr} {wt : Int} {k : KW} : Foot t S (fun H => KAt t H p S wt k) := ⟨fun H h => h.some.2, fun H H' h f ft => h.frame f ft⟩
/-- what is answered or raised -/
def OutK (t : Adr) (Q : VK) (E : XK) (H' : Hp) : V → Prop
  | .str _ => E (.ref t.Back) none H'
  | x => Q x H'
def sp_Keeper_init (t : Adr) : Sp := fun vs H Q _ => ∃ (p dx tm dt : Addr) (lo hi le ke c : Int), vs = [.ref p, .ref tm, .int c] ∧ H p = some (.ins t.Keeper dx []) ∧ H tm = some (.ins t.Terms dt (terms lo hi le ke)) ∧ good lo hi le ke ∧ Small c ∧
  ∀ H' S, (∀ x o, H x = some o → x ≠ p → H' x = some o) → (∀ x, x ∈ S → x = p ∨ H x = none) → KAt t H' p S (waitOf lo hi le) ⟨c, c + waitOf lo hi le, none⟩ → Q .non H'
/-- a method by the law's own keeper -/
def sp_way (t : Adr) (way : Int) (args : Int → Int → Addr → List V) : Sp := fun vs H Q E => ∃ (p : Addr) (S : List Addr) (wt : Int) (k : KW) (clock name : Int) (q : Addr) (a b : Int), vs = .ref p :: args clock name q ∧ KAt t H p S wt k ∧ Small clock ∧ (way ≠ 2 → H q = some (.tup [.int a, .int b])) ∧
  ∀ H' S', Fr H H' S S' → KAt t H' p S' wt (due k wt way clock name q a b).2 → OutK t Q E H' (due k wt way clock name q a b).1
abbrev sp_Keeper_asked (t : Adr) : Sp := sp_way t 0 fun c n q => [.int c, .int n, .ref q]
abbrev sp_Keeper_freed (t : Adr) : Sp := sp_way t 1 fun c n q => [.int c, .int n, .ref q]
abbrev sp_Keeper_let_to (t : Adr) : Sp := sp_way t 2 fun c _ _ => [.int c]
section
variable {P : Program} {w : World} {K : PySem.W.Frag} {mg : Str → Option Value} {base : Heap} {t : Adr}
theorem ok_Keeper_init (T : Txt K mg t) : FnOk P w K mg base CX0 3 t.f_Keeper_init t.d_Keeper_init ["self", "terms", "clock"] (sp_Keeper_init t) := by
  refine T.F_Keeper_init.ok sc_Keeper_init (fun vs H Q E h => ?_) (fun cdv A outer s H vs Q E hr h => ?_)
  · obtain ⟨p, dx, tm, dt, lo, hi, le, ke, c, rfl, _⟩ := h
    rfl
  · obtain ⟨p, dx, tm, dt, lo, hi, le, ke, c, rfl, hp, ht, g, sc, q⟩ := h
    refine ⟨_, (jss_cons (js_fld nc_call (je_var (i := 0) nm_self lo_Keeper_init_self rfl) (je_meth0 bs_name rfl (je_var (i := 1) nm_terms lo_Keeper_init_terms rfl) T.cl_Terms T.h_Terms_wait (ok_Terms_wait T) (hr.mono (by decide)) T.b_Terms_wait pass0))
      (jss_cons (js_fld nc_name (je_var (i := 0) nm_self lo_Keeper_init_self rfl) (je_var (i := 2) nm_clock lo_Keeper_init_clock rfl))
      (jss_cons (js_fld nc_const (je_var (i := 0) nm_self lo_Keeper_init_self rfl) je_non)
      (jss_cons (js_fld nc_const (je_var (i := 0) nm_self lo_Keeper_init_self rfl) je_non)
      (jss_one (js_fld nc_bin (je_var (i := 0) nm_self lo_Keeper_init_self rfl) (je_op jo_add (je_var (i := 2) nm_clock lo_Keeper_init_clock rfl) (je_fld bs_name (je_var (i := 0) nm_self lo_Keeper_init_self rfl))))))))).h, ?_⟩
    dsimp only [L2.start, List.map_cons, List.map_nil, List.length_cons, List.length_nil, List.cons_append, List.nil_append, List.replicate]
    refine seq_step fun R k => ?_
    try simp only [Y0, Y1, Y2, Y3, Y4, Y5, Y6, Y7, Y8, Y9, Ya, Yb, Yc, Yd, Ye, Yf, Yg, Yh, Yi, Yj, Yk, Yl, Ym, Yn, Yo, Yp, Yq, Yr, Ys, Yt, Yu, Yv, Yw, Yx, Yy, Yz, Z0, Z1, Z2, Z3, Z4, Z5, Z6, Z7, Z8, Z9, Za, Zb, Zc, Zd, Ze, Zf, Zg, Zh, Zi, Zj, Zk, Zl, Zm, Zn, Zo, Zp, Zq, Zr, Zs, Zt, Zu, Zv, Zw, Zx, Zy, Zz, V0, V1, V2, V3, V4, V5, V6, V7, V8, V9, Va, Vb, Vc, Vd, Ve, Vf, exists_eq_left', exists_eq_left, Vi, Vj, Vk, Vl, Vm, exists_and_left, Vo, and_true, true_and, if_true, if_false, decide_eq_true_eq, Vu, Vv, Vw, Vx, decide_eq_false_iff_not, reduceCtorEq, not_true_eq_false, not_false_eq_true, decide_true, decide_false]
    refine me_Terms_wait ht ⟨tm, dt, lo, hi, le, ke, rfl, ht, g, ?_⟩
    refine rd_put hp T.cl_Keeper T.nf_Keeper_pause (by decide : 0 < 1000) (k _ _ ?_)
    clear k R
    refine seq_step fun R k => ?_
    try simp only [Y0, Y1, Y2, Y3, Y4, Y5, Y6, Y7, Y8, Y9, Ya, Yb, Yc, Yd, Ye, Yf, Yg, Yh, Yi, Yj, Yk, Yl, Ym, Yn, Yo, Yp, Yq, Yr, Ys, Yt, Yu, Yv, Yw, Yx, Yy, Yz, Z0, Z1, Z2, Z3, Z4, Z5, Z6, Z7, Z8, Z9, Za, Zb, Zc, Zd, Ze, Zf, Zg, Zh, Zi, Zj, Zk, Zl, Zm, Zn, Zo, Zp, Zq, Zr, Zs, Zt, Zu, Zv, Zw, Zx, Zy, Zz, V0, V1, V2, V3, V4, V5, V6, V7, V8, V9, Va, Vb, Vc, Vd, Ve, Vf, exists_eq_left', exists_eq_left, Vi, Vj, Vk, Vl, Vm, exists_and_left, Vo, and_true, true_and, if_true, if_false, decide_eq_true_eq, Vu, Vv, Vw, Vx, decide_eq_false_iff_not, reduceCtorEq, not_true_eq_false, not_false_eq_true, decide_true, decide_false]
    refine rd_put upd_same T.cl_Keeper T.nf_Keeper_latest (by exact (by decide : 1 < 1000)) (k _ _ ?_)
    clear k R
    rw [upd_upd]
    refine seq_step fun R k => ?_
    try simp only [Y0, Y1, Y2, Y3, Y4, Y5, Y6, Y7, Y8, Y9, Ya, Yb, Yc, Yd, Ye, Yf, Yg, Yh, Yi, Yj, Yk, Yl, Ym, Yn, Yo, Yp, Yq, Yr, Ys, Yt, Yu, Yv, Yw, Yx, Yy, Yz, Z0, Z1, Z2, Z3, Z4, Z5, Z6, Z7, Z8, Z9, Za, Zb, Zc, Zd, Ze, Zf, Zg, Zh, Zi, Zj, Zk, Zl, Zm, Zn, Zo, Zp, Zq, Zr, Zs, Zt, Zu, Zv, Zw, Zx, Zy, Zz, V0, V1, V2, V3, V4, V5, V6, V7, V8, V9, Va, Vb, Vc, Vd, Ve, Vf, exists_eq_left', exists_eq_left, Vi, Vj, Vk, Vl, Vm, exists_and_left, Vo, and_true, true_and, if_true, if_false, decide_eq_true_eq, Vu, Vv, Vw, Vx, decide_eq_false_iff_not, reduceCtorEq, not_true_eq_false, not_false_eq_true, decide_true, decide_false]
    refine rd_put upd_same T.cl_Keeper T.nf_Keeper_name (by exact (by decide : 2 < 1000)) (k _ _ ?_)
    clear k R
    rw [upd_upd]
    refine seq_step fun R k => ?_
    try simp only [Y0, Y1, Y2, Y3, Y4, Y5, Y6, Y7, Y8, Y9, Ya, Yb, Yc, Yd, Ye, Yf, Yg, Yh, Yi, Yj, Yk, Yl, Ym, Yn, Yo, Yp, Yq, Yr, Ys, Yt, Yu, Yv, Yw, Yx, Yy, Yz, Z0, Z1, Z2, Z3, Z4, Z5, Z6, Z7, Z8, Z9, Za, Zb, Zc, Zd, Ze, Zf, Zg, Zh, Zi, Zj, Zk, Zl, Zm, Zn, Zo, Zp, Zq, Zr, Zs, Zt, Zu, Zv, Zw, Zx, Zy, Zz, V0, V1, V2, V3, V4, V5, V6, V7, V8, V9, Va, Vb, Vc, Vd, Ve, Vf, exists_eq_left', exists_eq_left, Vi, Vj, Vk, Vl, Vm, exists_and_left, Vo, and_true, true_and, if_true, if_false, decide_eq_true_eq, Vu, Vv, Vw, Vx, decide_eq_false_iff_not, reduceCtorEq, not_true_eq_false, not_false_eq_true, decide_true, decide_false]
    refine rd_put upd_same T.cl_Keeper T.nf_Keeper_number (by exact (by decide : 3 < 1000)) (k _ _ ?_)
    clear k R
    rw [upd_upd]
    try simp only [Y0, Y1, Y2, Y3, Y4, Y5, Y6, Y7, Y8, Y9, Ya, Yb, Yc, Yd, Ye, Yf, Yg, Yh, Yi, Yj, Yk, Yl, Ym, Yn, Yo, Yp, Yq, Yr, Ys, Yt, Yu, Yv, Yw, Yx, Yy, Yz, Z0, Z1, Z2, Z3, Z4, Z5, Z6, Z7, Z8, Z9, Za, Zb, Zc, Zd, Ze, Zf, Zg, Zh, Zi, Zj, Zk, Zl, Zm, Zn, Zo, Zp, Zq, Zr, Zs, Zt, Zu, Zv, Zw, Zx, Zy, Zz, V0, V1, V2, V3, V4, V5, V6, V7, V8, V9, Va, Vb, Vc, Vd, Ve, Vf, exists_eq_left', exists_eq_left, Vi, Vj, Vk, Vl, Vm, exists_and_left, Vo, and_true, true_and, if_true, if_false, decide_eq_true_eq, Vu, Vv, Vw, Vx, decide_eq_false_iff_not, reduceCtorEq, not_true_eq_false, not_false_eq_true, decide_true, decide_false]
    refine rd_fld upd_same T.cl_Keeper T.nf_Keeper_pause rfl ?_
    try simp only [Y0, Y1, Y2, Y3, Y4, Y5, Y6, Y7, Y8, Y9, Ya, Yb, Yc, Yd, Ye, Yf, Yg, Yh, Yi, Yj, Yk, Yl, Ym, Yn, Yo, Yp, Yq, Yr, Ys, Yt, Yu, Yv, Yw, Yx, Yy, Yz, Z0, Z1, Z2, Z3, Z4, Z5, Z6, Z7, Z8, Z9, Za, Zb, Zc, Zd, Ze, Zf, Zg, Zh, Zi, Zj, Zk, Zl, Zm, Zn, Zo, Zp, Zq, Zr, Zs, Zt, Zu, Zv, Zw, Zx, Zy, Zz, V0, V1, V2, V3, V4, V5, V6, V7, V8, V9, Va, Vb, Vc, Vd, Ve, Vf, exists_eq_left', exists_eq_left, Vi, Vj, Vk, Vl, Vm, exists_and_left, Vo, and_true, true_and, if_true, if_false, decide_eq_true_eq, Vu, Vv, Vw, Vx, decide_eq_false_iff_not, reduceCtorEq, not_true_eq_false, not_false_eq_true, decide_true, decide_false]
    refine rd_put upd_same T.cl_Keeper T.nf_Keeper_over (by exact (by decide : 4 < 1000)) ?_
    rw [upd_upd]
    refine q _ [p] (fun x o e ne => by rw [upd_ne ne]; exact e) (fun x hx => .inl (List.mem_singleton.mp hx)) ⟨dx, c + waitOf lo hi le, .non, .non, rfl, upd_same, rfl, fun _ => rfl, fun h => ?_, sc⟩
    exact Int.not_lt.mp h
theorem ok_Keeper_let_to (T : Txt K mg t) : FnOk P w K mg base (CXF P w) 2 t.f_Keeper_let_to t.d_Keeper_let_to ["self", "clock"] (sp_Keeper_let_to t) := by
  refine T.F_Keeper_let_to.okX sc_Keeper_let_to (fun vs H Q E h => ?_) (fun cdv A outer s H vs Q E hr h => ?_)
  · obtain ⟨p, S, wt, k, clock, name, q, a, b, rfl, _⟩ := h
    rfl
  · obtain ⟨p, S, wt, ⟨c, u, st⟩, clock, name, q, a, b, rfl, ⟨dx, over, nm, nu, rfl, hp, hn, h3, h4, sc⟩, sm, hq, z⟩ := h
    dsimp only at hp hn h3 h4 sc z
    have qe : clock < c → E (.ref t.Back) none H := fun h1 => by
      have z := z H [p] ⟨fun x o e _ => e, fun x h => .inl h⟩
      unfold due at z
      rw [if_pos h1] at z
      exact z ⟨dx, over, nm, nu, rfl, hp, hn, h3, h4, sc⟩
    refine ⟨_, (jssx_cons (jsx_fld nc_call (je_var (i := 0) nm_self lo_Keeper_let_to_self rfl) (jex_call nm_gone_on lo_Keeper_let_to_gone_on (ok_gone_on T) (hr.mono (by decide)) T.m_gone_on T.F_gone_on.kp T.b_gone_on sx_attr (ns_cons sx_name ns_nil) (ja_cons sx_attr (je_fld bs_name (je_var (i := 0) nm_self lo_Keeper_let_to_self rfl)) (ja_cons sx_name (je_var (i := 1) nm_clock lo_Keeper_let_to_clock rfl) ja_nil))))
      (jssx_one (jx (js_ret (je_if (jt_cmp jo_lt (je_var (i := 1) nm_clock lo_Keeper_let_to_clock rfl) (je_fld bs_name (je_var (i := 0) nm_self lo_Keeper_let_to_self rfl)) (by decide) (by decide)) (je_fld bs_name (je_var (i := 0) nm_self lo_Keeper_let_to_self rfl)) je_non))))).h, ?_⟩
    dsimp only [L2.start, List.map_cons, List.map_nil, List.length_cons, List.length_nil, List.cons_append, List.nil_append, List.replicate]
    refine xseq_step fun R k => ?_
    try simp only [Y0, Y1, Y2, Y3, Y4, Y5, Y6, Y7, Y8, Y9, Ya, Yb, Yc, Yd, Ye, Yf, Yg, Yh, Yi, Yj, Yk, Yl, Ym, Yn, Yo, Yp, Yq, Yr, Ys, Yt, Yu, Yv, Yw, Yx, Yy, Yz, Z0, Z1, Z2, Z3, Z4, Z5, Z6, Z7, Z8, Z9, Za, Zb, Zc, Zd, Ze, Zf, Zg, Zh, Zi, Zj, Zk, Zl, Zm, Zn, Zo, Zp, Zq, Zr, Zs, Zt, Zu, Zv, Zw, Zx, Zy, Zz, V0, V1, V2, V3, V4, V5, V6, V7, V8, V9, Va, Vb, Vc, Vd, Ve, Vf, exists_eq_left', exists_eq_left, Vi, Vj, Vk, Vl, Vm, exists_and_left, Vo, and_true, true_and, if_true, if_false, decide_eq_true_eq, Vu, Vv, Vw, Vx, decide_eq_false_iff_not, reduceCtorEq, not_true_eq_false, not_false_eq_true, decide_true, decide_false]
    refine rd_Keeper_latest T hp ?_
    try simp only [Y0, Y1, Y2, Y3, Y4, Y5, Y6, Y7, Y8, Y9, Ya, Yb, Yc, Yd, Ye, Yf, Yg, Yh, Yi, Yj, Yk, Yl, Ym, Yn, Yo, Yp, Yq, Yr, Ys, Yt, Yu, Yv, Yw, Yx, Yy, Yz, Z0, Z1, Z2, Z3, Z4, Z5, Z6, Z7, Z8, Z9, Za, Zb, Zc, Zd, Ze, Zf, Zg, Zh, Zi, Zj, Zk, Zl, Zm, Zn, Zo, Zp, Zq, Zr, Zs, Zt, Zu, Zv, Zw, Zx, Zy, Zz, V0, V1, V2, V3, V4, V5, V6, V7, V8, V9, Va, Vb, Vc, Vd, Ve, Vf, exists_eq_left', exists_eq_left, Vi, Vj, Vk, Vl, Vm, exists_and_left, Vo, and_true, true_and, if_true, if_false, decide_eq_true_eq, Vu, Vv, Vw, Vx, decide_eq_false_iff_not, reduceCtorEq, not_true_eq_false, not_false_eq_true, decide_true, decide_false]
    refine ⟨c, clock, rfl, sc, sm, qe, fun h1 => ?_⟩
    try simp only [Y0, Y1, Y2, Y3, Y4, Y5, Y6, Y7, Y8, Y9, Ya, Yb, Yc, Yd, Ye, Yf, Yg, Yh, Yi, Yj, Yk, Yl, Ym, Yn, Yo, Yp, Yq, Yr, Ys, Yt, Yu, Yv, Yw, Yx, Yy, Yz, Z0, Z1, Z2, Z3, Z4, Z5, Z6, Z7, Z8, Z9, Za, Zb, Zc, Zd, Ze, Zf, Zg, Zh, Zi, Zj, Zk, Zl, Zm, Zn, Zo, Zp, Zq, Zr, Zs, Zt, Zu, Zv, Zw, Zx, Zy, Zz, V0, V1, V2, V3, V4, V5, V6, V7, V8, V9, Va, Vb, Vc, Vd, Ve, Vf, exists_eq_left', exists_eq_left, Vi, Vj, Vk, Vl, Vm, exists_and_left, Vo, and_true, true_and, if_true, if_false, decide_eq_true_eq, Vu, Vv, Vw, Vx, decide_eq_false_iff_not, reduceCtorEq, not_true_eq_false, not_false_eq_true, decide_true, decide_false]
    refine st_Keeper_latest T hp (k _ _ ?_)
    clear k R
    unfold due at z
    rw [if_neg h1, if_pos rfl] at z
    dsimp only at z
    have tf : ∀ {o : HO} (r : Addr) (xs : List V), H r = some (.tup xs) → upd H p o r = some (.tup xs) := fun r xs e => by rw [upd_ne (ne_of e hp (by intro z; cases z))]; exact e
    have sf : ∀ {o : HO}, Fr H (upd H p o) [p] [p] := fun {o} => ⟨fun x o' e ne => by rw [upd_ne fun y => ne (List.mem_singleton.mpr y)]; exact e, fun x h => .inl h⟩
    have hov : clock < over ↔ clock < u := by
      by_cases c2 : c < u
      · rw [h3 c2]
      · have := h4 c2
        omega
    have z := z _ _ sf (by exact ⟨dx, over, nm, nu, rfl, upd_same, lets_eq tf hn, fun c1 => h3 (by dsimp only at c1; omega), fun c1 => by dsimp only at c1 ⊢; omega, sm⟩)
    try simp only [Y0, Y1, Y2, Y3, Y4, Y5, Y6, Y7, Y8, Y9, Ya, Yb, Yc, Yd, Ye, Yf, Yg, Yh, Yi, Yj, Yk, Yl, Ym, Yn, Yo, Yp, Yq, Yr, Ys, Yt, Yu, Yv, Yw, Yx, Yy, Yz, Z0, Z1, Z2, Z3, Z4, Z5, Z6, Z7, Z8, Z9, Za, Zb, Zc, Zd, Ze, Zf, Zg, Zh, Zi, Zj, Zk, Zl, Zm, Zn, Zo, Zp, Zq, Zr, Zs, Zt, Zu, Zv, Zw, Zx, Zy, Zz, V0, V1, V2, V3, V4, V5, V6, V7, V8, V9, Va, Vb, Vc, Vd, Ve, Vf, exists_eq_left', exists_eq_left, Vi, Vj, Vk, Vl, Vm, exists_and_left, Vo, and_true, true_and, if_true, if_false, decide_eq_true_eq, Vu, Vv, Vw, Vx, decide_eq_false_iff_not, reduceCtorEq, not_true_eq_false, not_false_eq_true, decide_true, decide_false]
    refine rd_Keeper_over T upd_same ?_
    try simp only [Y0, Y1, Y2, Y3, Y4, Y5, Y6, Y7, Y8, Y9, Ya, Yb, Yc, Yd, Ye, Yf, Yg, Yh, Yi, Yj, Yk, Yl, Ym, Yn, Yo, Yp, Yq, Yr, Ys, Yt, Yu, Yv, Yw, Yx, Yy, Yz, Z0, Z1, Z2, Z3, Z4, Z5, Z6, Z7, Z8, Z9, Za, Zb, Zc, Zd, Ze, Zf, Zg, Zh, Zi, Zj, Zk, Zl, Zm, Zn, Zo, Zp, Zq, Zr, Zs, Zt, Zu, Zv, Zw, Zx, Zy, Zz, V0, V1, V2, V3, V4, V5, V6, V7, V8, V9, Va, Vb, Vc, Vd, Ve, Vf, exists_eq_left', exists_eq_left, Vi, Vj, Vk, Vl, Vm, exists_and_left, Vo, and_true, true_and, if_true, if_false, decide_eq_true_eq, Vu, Vv, Vw, Vx, decide_eq_false_iff_not, reduceCtorEq, not_true_eq_false, not_false_eq_true, decide_true, decide_false]
    split
    · rename_i h2
      rw [if_pos (hov.mp h2)] at z
      refine rd_Keeper_name T upd_same ?_
      cases st with
      | none =>
        cases (show nm = .non from hn)
        exact z
      | some l =>
        cases (show nm = .int l.name from hn.1)
        exact z
    · rename_i h2
      rw [if_neg fun y => h2 (hov.mpr y)] at z
      exact z
theorem ok_Keeper_freed (T : Txt K mg t) : FnOk P w K mg base (CXF P w) 2 t.f_Keeper_freed t.d_Keeper_freed ["self", "clock", "name", "number"] (sp_Keeper_freed t) := by
  refine T.F_Keeper_freed.okX sc_Keeper_freed (fun vs H Q E h => ?_) (fun cdv A outer s H vs Q E hr h => ?_)
  · obtain ⟨p, S, wt, k, clock, name, q, a, b, rfl, _⟩ := h
    rfl
  · obtain ⟨p, S, wt, ⟨c, u, st⟩, clock, name, q, a, b, rfl, ⟨dx, over, nm, nu, rfl, hp, hn, h3, h4, sc⟩, sm, hq, z⟩ := h
    dsimp only at hp hn h3 h4 sc z
    have hq := hq (by decide)
    have qe : clock < c → E (.ref t.Back) none H := fun h1 => by
      have z := z H [p] ⟨fun x o e _ => e, fun x h => .inl h⟩
      unfold due at z
      rw [if_pos h1] at z
      exact z ⟨dx, over, nm, nu, rfl, hp, hn, h3, h4, sc⟩
    refine ⟨_, (jssx_cons (jsx_fld nc_call (je_var (i := 0) nm_self lo_Keeper_freed_self rfl) (jex_call nm_gone_on lo_Keeper_freed_gone_on (ok_gone_on T) (hr.mono (by decide)) T.m_gone_on T.F_gone_on.kp T.b_gone_on sx_attr (ns_cons sx_name ns_nil) (ja_cons sx_attr (je_fld bs_name (je_var (i := 0) nm_self lo_Keeper_freed_self rfl)) (ja_cons sx_name (je_var (i := 1) nm_clock lo_Keeper_freed_clock rfl) ja_nil))))
      (jssx_one (jx (js_if (jt_bool (jw_and (jt_cmp jo_eq (je_var (i := 2) nm_name lo_Keeper_freed_name rfl) (je_fld bs_name (je_var (i := 0) nm_self lo_Keeper_freed_self rfl)) (by decide) (by decide)) (jw_and1 (jt_cmp (jo_geT (hu_of hr)) (je_var (i := 3) nm_number lo_Keeper_freed_number rfl) (je_fld bs_name (je_var (i := 0) nm_self lo_Keeper_freed_self rfl)) (by decide) (by decide))))) (jss_one (js_fld nc_name (je_var (i := 0) nm_self lo_Keeper_freed_self rfl) (je_var (i := 1) nm_clock lo_Keeper_freed_clock rfl))) jss_nil)))).h, ?_⟩
    dsimp only [L2.start, List.map_cons, List.map_nil, List.length_cons, List.length_nil, List.cons_append, List.nil_append, List.replicate]
    refine xseq_step fun R k => ?_
    try simp only [Y0, Y1, Y2, Y3, Y4, Y5, Y6, Y7, Y8, Y9, Ya, Yb, Yc, Yd, Ye, Yf, Yg, Yh, Yi, Yj, Yk, Yl, Ym, Yn, Yo, Yp, Yq, Yr, Ys, Yt, Yu, Yv, Yw, Yx, Yy, Yz, Z0, Z1, Z2, Z3, Z4, Z5, Z6, Z7, Z8, Z9, Za, Zb, Zc, Zd, Ze, Zf, Zg, Zh, Zi, Zj, Zk, Zl, Zm, Zn, Zo, Zp, Zq, Zr, Zs, Zt, Zu, Zv, Zw, Zx, Zy, Zz, V0, V1, V2, V3, V4, V5, V6, V7, V8, V9, Va, Vb, Vc, Vd, Ve, Vf, exists_eq_left', exists_eq_left, Vi, Vj, Vk, Vl, Vm, exists_and_left, Vo, and_true, true_and, if_true, if_false, decide_eq_true_eq, Vu, Vv, Vw, Vx, decide_eq_false_iff_not, reduceCtorEq, not_true_eq_false, not_false_eq_true, decide_true, decide_false]
    refine rd_Keeper_latest T hp ?_
    try simp only [Y0, Y1, Y2, Y3, Y4, Y5, Y6, Y7, Y8, Y9, Ya, Yb, Yc, Yd, Ye, Yf, Yg, Yh, Yi, Yj, Yk, Yl, Ym, Yn, Yo, Yp, Yq, Yr, Ys, Yt, Yu, Yv, Yw, Yx, Yy, Yz, Z0, Z1, Z2, Z3, Z4, Z5, Z6, Z7, Z8, Z9, Za, Zb, Zc, Zd, Ze, Zf, Zg, Zh, Zi, Zj, Zk, Zl, Zm, Zn, Zo, Zp, Zq, Zr, Zs, Zt, Zu, Zv, Zw, Zx, Zy, Zz, V0, V1, V2, V3, V4, V5, V6, V7, V8, V9, Va, Vb, Vc, Vd, Ve, Vf, exists_eq_left', exists_eq_left, Vi, Vj, Vk, Vl, Vm, exists_and_left, Vo, and_true, true_and, if_true, if_false, decide_eq_true_eq, Vu, Vv, Vw, Vx, decide_eq_false_iff_not, reduceCtorEq, not_true_eq_false, not_false_eq_true, decide_true, decide_false]
    refine ⟨c, clock, rfl, sc, sm, qe, fun h1 => ?_⟩
    try simp only [Y0, Y1, Y2, Y3, Y4, Y5, Y6, Y7, Y8, Y9, Ya, Yb, Yc, Yd, Ye, Yf, Yg, Yh, Yi, Yj, Yk, Yl, Ym, Yn, Yo, Yp, Yq, Yr, Ys, Yt, Yu, Yv, Yw, Yx, Yy, Yz, Z0, Z1, Z2, Z3, Z4, Z5, Z6, Z7, Z8, Z9, Za, Zb, Zc, Zd, Ze, Zf, Zg, Zh, Zi, Zj, Zk, Zl, Zm, Zn, Zo, Zp, Zq, Zr, Zs, Zt, Zu, Zv, Zw, Zx, Zy, Zz, V0, V1, V2, V3, V4, V5, V6, V7, V8, V9, Va, Vb, Vc, Vd, Ve, Vf, exists_eq_left', exists_eq_left, Vi, Vj, Vk, Vl, Vm, exists_and_left, Vo, and_true, true_and, if_true, if_false, decide_eq_true_eq, Vu, Vv, Vw, Vx, decide_eq_false_iff_not, reduceCtorEq, not_true_eq_false, not_false_eq_true, decide_true, decide_false]
    refine st_Keeper_latest T hp (k _ _ ?_)
    clear k R
    unfold due at z
    rw [if_neg h1, if_neg (by decide), if_pos rfl] at z
    dsimp only at z
    have tf : ∀ {o : HO} (r : Addr) (xs : List V), H r = some (.tup xs) → upd H p o r = some (.tup xs) := fun r xs e => by rw [upd_ne (ne_of e hp (by intro z; cases z))]; exact e
    have sf : ∀ {o : HO}, Fr H (upd H p o) [p] [p] := fun {o} => ⟨fun x o' e ne => by rw [upd_ne fun y => ne (List.mem_singleton.mpr y)]; exact e, fun x h => .inl h⟩
    have no : KAt t (upd H p (.ins t.Keeper dx (kf wt clock nm nu over))) p [p] wt ⟨clock, u, st⟩ := ⟨dx, over, nm, nu, rfl, upd_same, lets_eq tf hn, fun c1 => h3 (by dsimp only at c1; omega), fun c1 => by
      dsimp only at c1 ⊢
      by_cases c2 : c < u
      · have := h3 c2
        omega
      · have := h4 c2
        omega, sm⟩
    try simp only [Y0, Y1, Y2, Y3, Y4, Y5, Y6, Y7, Y8, Y9, Ya, Yb, Yc, Yd, Ye, Yf, Yg, Yh, Yi, Yj, Yk, Yl, Ym, Yn, Yo, Yp, Yq, Yr, Ys, Yt, Yu, Yv, Yw, Yx, Yy, Yz, Z0, Z1, Z2, Z3, Z4, Z5, Z6, Z7, Z8, Z9, Za, Zb, Zc, Zd, Ze, Zf, Zg, Zh, Zi, Zj, Zk, Zl, Zm, Zn, Zo, Zp, Zq, Zr, Zs, Zt, Zu, Zv, Zw, Zx, Zy, Zz, V0, V1, V2, V3, V4, V5, V6, V7, V8, V9, Va, Vb, Vc, Vd, Ve, Vf, exists_eq_left', exists_eq_left, Vi, Vj, Vk, Vl, Vm, exists_and_left, Vo, and_true, true_and, if_true, if_false, decide_eq_true_eq, Vu, Vv, Vw, Vx, decide_eq_false_iff_not, reduceCtorEq, not_true_eq_false, not_false_eq_true, decide_true, decide_false]
    refine rd_Keeper_name T upd_same ?_
    cases st with
    | none =>
      cases (show nm = .non from hn)
      try simp only [Y0, Y1, Y2, Y3, Y4, Y5, Y6, Y7, Y8, Y9, Ya, Yb, Yc, Yd, Ye, Yf, Yg, Yh, Yi, Yj, Yk, Yl, Ym, Yn, Yo, Yp, Yq, Yr, Ys, Yt, Yu, Yv, Yw, Yx, Yy, Yz, Z0, Z1, Z2, Z3, Z4, Z5, Z6, Z7, Z8, Z9, Za, Zb, Zc, Zd, Ze, Zf, Zg, Zh, Zi, Zj, Zk, Zl, Zm, Zn, Zo, Zp, Zq, Zr, Zs, Zt, Zu, Zv, Zw, Zx, Zy, Zz, V0, V1, V2, V3, V4, V5, V6, V7, V8, V9, Va, Vb, Vc, Vd, Ve, Vf, exists_eq_left', exists_eq_left, Vi, Vj, Vk, Vl, Vm, exists_and_left, Vo, and_true, true_and, if_true, if_false, decide_eq_true_eq, Vu, Vv, Vw, Vx, decide_eq_false_iff_not, reduceCtorEq, not_true_eq_false, not_false_eq_true, decide_true, decide_false]
      exact z _ _ sf no
    | some l =>
      obtain ⟨e1, r, e2, e3⟩ := hn
      subst e1
      subst e2
      dsimp only at z
      try simp only [Y0, Y1, Y2, Y3, Y4, Y5, Y6, Y7, Y8, Y9, Ya, Yb, Yc, Yd, Ye, Yf, Yg, Yh, Yi, Yj, Yk, Yl, Ym, Yn, Yo, Yp, Yq, Yr, Ys, Yt, Yu, Yv, Yw, Yx, Yy, Yz, Z0, Z1, Z2, Z3, Z4, Z5, Z6, Z7, Z8, Z9, Za, Zb, Zc, Zd, Ze, Zf, Zg, Zh, Zi, Zj, Zk, Zl, Zm, Zn, Zo, Zp, Zq, Zr, Zs, Zt, Zu, Zv, Zw, Zx, Zy, Zz, V0, V1, V2, V3, V4, V5, V6, V7, V8, V9, Va, Vb, Vc, Vd, Ve, Vf, exists_eq_left', exists_eq_left, Vi, Vj, Vk, Vl, Vm, exists_and_left, Vo, and_true, true_and, if_true, if_false, decide_eq_true_eq, Vu, Vv, Vw, Vx, decide_eq_false_iff_not, reduceCtorEq, not_true_eq_false, not_false_eq_true, decide_true, decide_false]
      split
      · rename_i h5
        refine rd_Keeper_number T upd_same ?_
        refine rd_geP (tf _ _ hq) (tf _ _ e3) ?_
        try simp only [Y0, Y1, Y2, Y3, Y4, Y5, Y6, Y7, Y8, Y9, Ya, Yb, Yc, Yd, Ye, Yf, Yg, Yh, Yi, Yj, Yk, Yl, Ym, Yn, Yo, Yp, Yq, Yr, Ys, Yt, Yu, Yv, Yw, Yx, Yy, Yz, Z0, Z1, Z2, Z3, Z4, Z5, Z6, Z7, Z8, Z9, Za, Zb, Zc, Zd, Ze, Zf, Zg, Zh, Zi, Zj, Zk, Zl, Zm, Zn, Zo, Zp, Zq, Zr, Zs, Zt, Zu, Zv, Zw, Zx, Zy, Zz, V0, V1, V2, V3, V4, V5, V6, V7, V8, V9, Va, Vb, Vc, Vd, Ve, Vf, exists_eq_left', exists_eq_left, Vi, Vj, Vk, Vl, Vm, exists_and_left, Vo, and_true, true_and, if_true, if_false, decide_eq_true_eq, Vu, Vv, Vw, Vx, decide_eq_false_iff_not, reduceCtorEq, not_true_eq_false, not_false_eq_true, decide_true, decide_false]
        have e5 : (l.a < a ∨ a = l.a ∧ l.b ≤ b) ↔ ¬ ltN a b l.a l.b := by unfold ltN; omega
        split
        · rename_i h6
          rw [if_pos ⟨h5.symm, e5.mp h6⟩] at z
          refine st_Keeper_over T upd_same ?_
          rw [upd_upd]
          exact z _ _ sf ⟨dx, clock, _, _, rfl, upd_same, ⟨rfl, r, rfl, tf _ _ e3⟩, fun c1 => by dsimp only at c1; omega, fun c1 => Int.le_refl _, sm⟩
        · rename_i h6
          rw [if_neg fun y => h6 (e5.mpr y.2)] at z
          exact z _ _ sf no
      · rename_i h5
        rw [if_neg fun y => h5 y.1.symm] at z
        exact z _ _ sf no
theorem ok_Keeper_asked (T : Txt K mg t) : FnOk P w K mg base (CXF P w) 2 t.f_Keeper_asked t.d_Keeper_asked ["self", "clock", "name", "number"] (sp_Keeper_asked t) := by
  refine T.F_Keeper_asked.okX sc_Keeper_asked (fun vs H Q E h => ?_) (fun cdv A outer s H vs Q E hr h => ?_)
  · obtain ⟨p, S, wt, k, clock, name, q, a, b, rfl, _⟩ := h
    rfl
  · obtain ⟨p, S, wt, ⟨c, u, st⟩, clock, name, q, a, b, rfl, ⟨dx, over, nm, nu, rfl, hp, hn, h3, h4, sc⟩, sm, hq, z⟩ := h
    dsimp only at hp hn h3 h4 sc z
    have hq := hq (by decide)
    have qe : clock < c → E (.ref t.Back) none H := fun h1 => by
      have z := z H [p] ⟨fun x o e _ => e, fun x h => .inl h⟩
      unfold due at z
      rw [if_pos h1] at z
      exact z ⟨dx, over, nm, nu, rfl, hp, hn, h3, h4, sc⟩
    refine ⟨_, (jssx_cons (jsx_fld nc_call (je_var (i := 0) nm_self lo_Keeper_asked_self rfl) (jex_call nm_gone_on lo_Keeper_asked_gone_on (ok_gone_on T) (hr.mono (by decide)) T.m_gone_on T.F_gone_on.kp T.b_gone_on sx_attr (ns_cons sx_name ns_nil) (ja_cons sx_attr (je_fld bs_name (je_var (i := 0) nm_self lo_Keeper_asked_self rfl)) (ja_cons sx_name (je_var (i := 1) nm_clock lo_Keeper_asked_clock rfl) ja_nil))))
      (jssx_cons (jx (js_if (jt_cmp jo_lt (je_var (i := 1) nm_clock lo_Keeper_asked_clock rfl) (je_fld bs_name (je_var (i := 0) nm_self lo_Keeper_asked_self rfl)) (by decide) (by decide)) (jss_cons (js_if (jt_bool (jw_or (jt_cmp jo_ne (je_var (i := 2) nm_name lo_Keeper_asked_name rfl) (je_fld bs_name (je_var (i := 0) nm_self lo_Keeper_asked_self rfl)) (by decide) (by decide)) (jw_or1 (jt_cmp (jo_ltT (hu_of hr)) (je_var (i := 3) nm_number lo_Keeper_asked_number rfl) (je_fld bs_name (je_var (i := 0) nm_self lo_Keeper_asked_self rfl)) (by decide) (by decide))))) (jss_one (js_ret je_bl)) jss_nil)
      (jss_one (js_if (jt_cmp (jo_eqD (hu8_of hr)) (je_var (i := 3) nm_number lo_Keeper_asked_number rfl) (je_fld bs_name (je_var (i := 0) nm_self lo_Keeper_asked_self rfl)) (by decide) (by decide)) (jss_one (js_ret je_bl)) jss_nil))) jss_nil))
      (jssx_cons (jx (js_fld nc_name (je_var (i := 0) nm_self lo_Keeper_asked_self rfl) (je_var (i := 2) nm_name lo_Keeper_asked_name rfl)))
      (jssx_cons (jx (js_fld nc_name (je_var (i := 0) nm_self lo_Keeper_asked_self rfl) (je_var (i := 3) nm_number lo_Keeper_asked_number rfl)))
      (jssx_cons (jx (js_fld nc_bin (je_var (i := 0) nm_self lo_Keeper_asked_self rfl) (je_op jo_add (je_var (i := 1) nm_clock lo_Keeper_asked_clock rfl) (je_fld bs_name (je_var (i := 0) nm_self lo_Keeper_asked_self rfl)))))
      (jssx_one (jx (js_ret je_bl)))))))).h, ?_⟩
    dsimp only [L2.start, List.map_cons, List.map_nil, List.length_cons, List.length_nil, List.cons_append, List.nil_append, List.replicate]
    refine xseq_step fun R k => ?_
    try simp only [Y0, Y1, Y2, Y3, Y4, Y5, Y6, Y7, Y8, Y9, Ya, Yb, Yc, Yd, Ye, Yf, Yg, Yh, Yi, Yj, Yk, Yl, Ym, Yn, Yo, Yp, Yq, Yr, Ys, Yt, Yu, Yv, Yw, Yx, Yy, Yz, Z0, Z1, Z2, Z3, Z4, Z5, Z6, Z7, Z8, Z9, Za, Zb, Zc, Zd, Ze, Zf, Zg, Zh, Zi, Zj, Zk, Zl, Zm, Zn, Zo, Zp, Zq, Zr, Zs, Zt, Zu, Zv, Zw, Zx, Zy, Zz, V0, V1, V2, V3, V4, V5, V6, V7, V8, V9, Va, Vb, Vc, Vd, Ve, Vf, exists_eq_left', exists_eq_left, Vi, Vj, Vk, Vl, Vm, exists_and_left, Vo, and_true, true_and, if_true, if_false, decide_eq_true_eq, Vu, Vv, Vw, Vx, decide_eq_false_iff_not, reduceCtorEq, not_true_eq_false, not_false_eq_true, decide_true, decide_false]
    refine rd_Keeper_latest T hp ?_
    try simp only [Y0, Y1, Y2, Y3, Y4, Y5, Y6, Y7, Y8, Y9, Ya, Yb, Yc, Yd, Ye, Yf, Yg, Yh, Yi, Yj, Yk, Yl, Ym, Yn, Yo, Yp, Yq, Yr, Ys, Yt, Yu, Yv, Yw, Yx, Yy, Yz, Z0, Z1, Z2, Z3, Z4, Z5, Z6, Z7, Z8, Z9, Za, Zb, Zc, Zd, Ze, Zf, Zg, Zh, Zi, Zj, Zk, Zl, Zm, Zn, Zo, Zp, Zq, Zr, Zs, Zt, Zu, Zv, Zw, Zx, Zy, Zz, V0, V1, V2, V3, V4, V5, V6, V7, V8, V9, Va, Vb, Vc, Vd, Ve, Vf, exists_eq_left', exists_eq_left, Vi, Vj, Vk, Vl, Vm, exists_and_left, Vo, and_true, true_and, if_true, if_false, decide_eq_true_eq, Vu, Vv, Vw, Vx, decide_eq_false_iff_not, reduceCtorEq, not_true_eq_false, not_false_eq_true, decide_true, decide_false]
    refine ⟨c, clock, rfl, sc, sm, qe, fun h1 => ?_⟩
    try simp only [Y0, Y1, Y2, Y3, Y4, Y5, Y6, Y7, Y8, Y9, Ya, Yb, Yc, Yd, Ye, Yf, Yg, Yh, Yi, Yj, Yk, Yl, Ym, Yn, Yo, Yp, Yq, Yr, Ys, Yt, Yu, Yv, Yw, Yx, Yy, Yz, Z0, Z1, Z2, Z3, Z4, Z5, Z6, Z7, Z8, Z9, Za, Zb, Zc, Zd, Ze, Zf, Zg, Zh, Zi, Zj, Zk, Zl, Zm, Zn, Zo, Zp, Zq, Zr, Zs, Zt, Zu, Zv, Zw, Zx, Zy, Zz, V0, V1, V2, V3, V4, V5, V6, V7, V8, V9, Va, Vb, Vc, Vd, Ve, Vf, exists_eq_left', exists_eq_left, Vi, Vj, Vk, Vl, Vm, exists_and_left, Vo, and_true, true_and, if_true, if_false, decide_eq_true_eq, Vu, Vv, Vw, Vx, decide_eq_false_iff_not, reduceCtorEq, not_true_eq_false, not_false_eq_true, decide_true, decide_false]
    refine st_Keeper_latest T hp (k _ _ ?_)
    clear k R
    unfold due at z
    rw [if_neg h1, if_neg (by decide), if_neg (by decide)] at z
    have tf : ∀ {o : HO} (r : Addr) (xs : List V), H r = some (.tup xs) → upd H p o r = some (.tup xs) := fun r xs e => by rw [upd_ne (ne_of e hp (by intro z; cases z))]; exact e
    have sf : ∀ {o : HO}, Fr H (upd H p o) [p] [p] := fun {o} => ⟨fun x o' e ne => by rw [upd_ne fun y => ne (List.mem_singleton.mpr y)]; exact e, fun x h => .inl h⟩
    have hov : clock < over ↔ clock < u := by
      by_cases c2 : c < u
      · rw [h3 c2]
      · have := h4 c2
        omega
    have no : KAt t (upd H p (.ins t.Keeper dx (kf wt clock nm nu over))) p [p] wt ⟨clock, u, st⟩ := ⟨dx, over, nm, nu, rfl, upd_same, lets_eq tf hn, fun c1 => h3 (by dsimp only at c1; omega), fun c1 => by dsimp only at c1 ⊢; omega, sm⟩
    have ye : KAt t (upd H p (.ins t.Keeper dx (kf wt clock (.int name) (.ref q) (clock + wt)))) p [p] wt ⟨clock, clock + wt, some ⟨name, q, a, b⟩⟩ := ⟨dx, clock + wt, _, _, rfl, upd_same, ⟨rfl, q, rfl, tf _ _ hq⟩, fun _ => rfl, fun h => Int.not_lt.mp h, sm⟩
    refine xseq_step fun R k => ?_
    have set : ∀ (nm nu : V), Q (.bl true) (upd H p (.ins t.Keeper dx (kf wt clock (.int name) (.ref q) (clock + wt)))) → R [some (.ref p), some (.int clock), some (.int name), some (.ref q)] (upd H p (.ins t.Keeper dx (kf wt clock nm nu over))) := by
      intro nm nu fin
      refine k _ _ ?_
      refine xseq_step fun R k => ?_
      try simp only [Y0, Y1, Y2, Y3, Y4, Y5, Y6, Y7, Y8, Y9, Ya, Yb, Yc, Yd, Ye, Yf, Yg, Yh, Yi, Yj, Yk, Yl, Ym, Yn, Yo, Yp, Yq, Yr, Ys, Yt, Yu, Yv, Yw, Yx, Yy, Yz, Z0, Z1, Z2, Z3, Z4, Z5, Z6, Z7, Z8, Z9, Za, Zb, Zc, Zd, Ze, Zf, Zg, Zh, Zi, Zj, Zk, Zl, Zm, Zn, Zo, Zp, Zq, Zr, Zs, Zt, Zu, Zv, Zw, Zx, Zy, Zz, V0, V1, V2, V3, V4, V5, V6, V7, V8, V9, Va, Vb, Vc, Vd, Ve, Vf, exists_eq_left', exists_eq_left, Vi, Vj, Vk, Vl, Vm, exists_and_left, Vo, and_true, true_and, if_true, if_false, decide_eq_true_eq, Vu, Vv, Vw, Vx, decide_eq_false_iff_not, reduceCtorEq, not_true_eq_false, not_false_eq_true, decide_true, decide_false]
      refine st_Keeper_name T upd_same ?_
      rw [upd_upd]
      refine k _ _ ?_
      clear k R
      refine xseq_step fun R k => ?_
      try simp only [Y0, Y1, Y2, Y3, Y4, Y5, Y6, Y7, Y8, Y9, Ya, Yb, Yc, Yd, Ye, Yf, Yg, Yh, Yi, Yj, Yk, Yl, Ym, Yn, Yo, Yp, Yq, Yr, Ys, Yt, Yu, Yv, Yw, Yx, Yy, Yz, Z0, Z1, Z2, Z3, Z4, Z5, Z6, Z7, Z8, Z9, Za, Zb, Zc, Zd, Ze, Zf, Zg, Zh, Zi, Zj, Zk, Zl, Zm, Zn, Zo, Zp, Zq, Zr, Zs, Zt, Zu, Zv, Zw, Zx, Zy, Zz, V0, V1, V2, V3, V4, V5, V6, V7, V8, V9, Va, Vb, Vc, Vd, Ve, Vf, exists_eq_left', exists_eq_left, Vi, Vj, Vk, Vl, Vm, exists_and_left, Vo, and_true, true_and, if_true, if_false, decide_eq_true_eq, Vu, Vv, Vw, Vx, decide_eq_false_iff_not, reduceCtorEq, not_true_eq_false, not_false_eq_true, decide_true, decide_false]
      refine st_Keeper_number T upd_same ?_
      rw [upd_upd]
      refine k _ _ ?_
      clear k R
      refine xseq_step fun R k => ?_
      try simp only [Y0, Y1, Y2, Y3, Y4, Y5, Y6, Y7, Y8, Y9, Ya, Yb, Yc, Yd, Ye, Yf, Yg, Yh, Yi, Yj, Yk, Yl, Ym, Yn, Yo, Yp, Yq, Yr, Ys, Yt, Yu, Yv, Yw, Yx, Yy, Yz, Z0, Z1, Z2, Z3, Z4, Z5, Z6, Z7, Z8, Z9, Za, Zb, Zc, Zd, Ze, Zf, Zg, Zh, Zi, Zj, Zk, Zl, Zm, Zn, Zo, Zp, Zq, Zr, Zs, Zt, Zu, Zv, Zw, Zx, Zy, Zz, V0, V1, V2, V3, V4, V5, V6, V7, V8, V9, Va, Vb, Vc, Vd, Ve, Vf, exists_eq_left', exists_eq_left, Vi, Vj, Vk, Vl, Vm, exists_and_left, Vo, and_true, true_and, if_true, if_false, decide_eq_true_eq, Vu, Vv, Vw, Vx, decide_eq_false_iff_not, reduceCtorEq, not_true_eq_false, not_false_eq_true, decide_true, decide_false]
      refine rd_Keeper_pause T upd_same ?_
      try simp only [Y0, Y1, Y2, Y3, Y4, Y5, Y6, Y7, Y8, Y9, Ya, Yb, Yc, Yd, Ye, Yf, Yg, Yh, Yi, Yj, Yk, Yl, Ym, Yn, Yo, Yp, Yq, Yr, Ys, Yt, Yu, Yv, Yw, Yx, Yy, Yz, Z0, Z1, Z2, Z3, Z4, Z5, Z6, Z7, Z8, Z9, Za, Zb, Zc, Zd, Ze, Zf, Zg, Zh, Zi, Zj, Zk, Zl, Zm, Zn, Zo, Zp, Zq, Zr, Zs, Zt, Zu, Zv, Zw, Zx, Zy, Zz, V0, V1, V2, V3, V4, V5, V6, V7, V8, V9, Va, Vb, Vc, Vd, Ve, Vf, exists_eq_left', exists_eq_left, Vi, Vj, Vk, Vl, Vm, exists_and_left, Vo, and_true, true_and, if_true, if_false, decide_eq_true_eq, Vu, Vv, Vw, Vx, decide_eq_false_iff_not, reduceCtorEq, not_true_eq_false, not_false_eq_true, decide_true, decide_false]
      refine st_Keeper_over T upd_same ?_
      rw [upd_upd]
      refine k _ _ ?_
      clear k R
      try simp only [Y0, Y1, Y2, Y3, Y4, Y5, Y6, Y7, Y8, Y9, Ya, Yb, Yc, Yd, Ye, Yf, Yg, Yh, Yi, Yj, Yk, Yl, Ym, Yn, Yo, Yp, Yq, Yr, Ys, Yt, Yu, Yv, Yw, Yx, Yy, Yz, Z0, Z1, Z2, Z3, Z4, Z5, Z6, Z7, Z8, Z9, Za, Zb, Zc, Zd, Ze, Zf, Zg, Zh, Zi, Zj, Zk, Zl, Zm, Zn, Zo, Zp, Zq, Zr, Zs, Zt, Zu, Zv, Zw, Zx, Zy, Zz, V0, V1, V2, V3, V4, V5, V6, V7, V8, V9, Va, Vb, Vc, Vd, Ve, Vf, exists_eq_left', exists_eq_left, Vi, Vj, Vk, Vl, Vm, exists_and_left, Vo, and_true, true_and, if_true, if_false, decide_eq_true_eq, Vu, Vv, Vw, Vx, decide_eq_false_iff_not, reduceCtorEq, not_true_eq_false, not_false_eq_true, decide_true, decide_false]
      exact fin
    clear k
    try simp only [Y0, Y1, Y2, Y3, Y4, Y5, Y6, Y7, Y8, Y9, Ya, Yb, Yc, Yd, Ye, Yf, Yg, Yh, Yi, Yj, Yk, Yl, Ym, Yn, Yo, Yp, Yq, Yr, Ys, Yt, Yu, Yv, Yw, Yx, Yy, Yz, Z0, Z1, Z2, Z3, Z4, Z5, Z6, Z7, Z8, Z9, Za, Zb, Zc, Zd, Ze, Zf, Zg, Zh, Zi, Zj, Zk, Zl, Zm, Zn, Zo, Zp, Zq, Zr, Zs, Zt, Zu, Zv, Zw, Zx, Zy, Zz, V0, V1, V2, V3, V4, V5, V6, V7, V8, V9, Va, Vb, Vc, Vd, Ve, Vf, exists_eq_left', exists_eq_left, Vi, Vj, Vk, Vl, Vm, exists_and_left, Vo, and_true, true_and, if_true, if_false, decide_eq_true_eq, Vu, Vv, Vw, Vx, decide_eq_false_iff_not, reduceCtorEq, not_true_eq_false, not_false_eq_true, decide_true, decide_false]
    refine rd_Keeper_over T upd_same ?_
    try simp only [Y0, Y1, Y2, Y3, Y4, Y5, Y6, Y7, Y8, Y9, Ya, Yb, Yc, Yd, Ye, Yf, Yg, Yh, Yi, Yj, Yk, Yl, Ym, Yn, Yo, Yp, Yq, Yr, Ys, Yt, Yu, Yv, Yw, Yx, Yy, Yz, Z0, Z1, Z2, Z3, Z4, Z5, Z6, Z7, Z8, Z9, Za, Zb, Zc, Zd, Ze, Zf, Zg, Zh, Zi, Zj, Zk, Zl, Zm, Zn, Zo, Zp, Zq, Zr, Zs, Zt, Zu, Zv, Zw, Zx, Zy, Zz, V0, V1, V2, V3, V4, V5, V6, V7, V8, V9, Va, Vb, Vc, Vd, Ve, Vf, exists_eq_left', exists_eq_left, Vi, Vj, Vk, Vl, Vm, exists_and_left, Vo, and_true, true_and, if_true, if_false, decide_eq_true_eq, Vu, Vv, Vw, Vx, decide_eq_false_iff_not, reduceCtorEq, not_true_eq_false, not_false_eq_true, decide_true, decide_false]
    split
    · rename_i h2
      rw [if_pos (hov.mp h2)] at z
      refine seq_step fun R2 k2 => ?_
      try simp only [Y0, Y1, Y2, Y3, Y4, Y5, Y6, Y7, Y8, Y9, Ya, Yb, Yc, Yd, Ye, Yf, Yg, Yh, Yi, Yj, Yk, Yl, Ym, Yn, Yo, Yp, Yq, Yr, Ys, Yt, Yu, Yv, Yw, Yx, Yy, Yz, Z0, Z1, Z2, Z3, Z4, Z5, Z6, Z7, Z8, Z9, Za, Zb, Zc, Zd, Ze, Zf, Zg, Zh, Zi, Zj, Zk, Zl, Zm, Zn, Zo, Zp, Zq, Zr, Zs, Zt, Zu, Zv, Zw, Zx, Zy, Zz, V0, V1, V2, V3, V4, V5, V6, V7, V8, V9, Va, Vb, Vc, Vd, Ve, Vf, exists_eq_left', exists_eq_left, Vi, Vj, Vk, Vl, Vm, exists_and_left, Vo, and_true, true_and, if_true, if_false, decide_eq_true_eq, Vu, Vv, Vw, Vx, decide_eq_false_iff_not, reduceCtorEq, not_true_eq_false, not_false_eq_true, decide_true, decide_false]
      refine rd_Keeper_name T upd_same ?_
      cases st with
      | none =>
        cases (show nm = .non from hn)
        dsimp only at z
        try simp only [Y0, Y1, Y2, Y3, Y4, Y5, Y6, Y7, Y8, Y9, Ya, Yb, Yc, Yd, Ye, Yf, Yg, Yh, Yi, Yj, Yk, Yl, Ym, Yn, Yo, Yp, Yq, Yr, Ys, Yt, Yu, Yv, Yw, Yx, Yy, Yz, Z0, Z1, Z2, Z3, Z4, Z5, Z6, Z7, Z8, Z9, Za, Zb, Zc, Zd, Ze, Zf, Zg, Zh, Zi, Zj, Zk, Zl, Zm, Zn, Zo, Zp, Zq, Zr, Zs, Zt, Zu, Zv, Zw, Zx, Zy, Zz, V0, V1, V2, V3, V4, V5, V6, V7, V8, V9, Va, Vb, Vc, Vd, Ve, Vf, exists_eq_left', exists_eq_left, Vi, Vj, Vk, Vl, Vm, exists_and_left, Vo, and_true, true_and, if_true, if_false, decide_eq_true_eq, Vu, Vv, Vw, Vx, decide_eq_false_iff_not, reduceCtorEq, not_true_eq_false, not_false_eq_true, decide_true, decide_false]
        exact z _ _ sf no
      | some l =>
        obtain ⟨e1, r, e2, e3⟩ := hn
        subst e1
        subst e2
        dsimp only at z
        try simp only [Y0, Y1, Y2, Y3, Y4, Y5, Y6, Y7, Y8, Y9, Ya, Yb, Yc, Yd, Ye, Yf, Yg, Yh, Yi, Yj, Yk, Yl, Ym, Yn, Yo, Yp, Yq, Yr, Ys, Yt, Yu, Yv, Yw, Yx, Yy, Yz, Z0, Z1, Z2, Z3, Z4, Z5, Z6, Z7, Z8, Z9, Za, Zb, Zc, Zd, Ze, Zf, Zg, Zh, Zi, Zj, Zk, Zl, Zm, Zn, Zo, Zp, Zq, Zr, Zs, Zt, Zu, Zv, Zw, Zx, Zy, Zz, V0, V1, V2, V3, V4, V5, V6, V7, V8, V9, Va, Vb, Vc, Vd, Ve, Vf, exists_eq_left', exists_eq_left, Vi, Vj, Vk, Vl, Vm, exists_and_left, Vo, and_true, true_and, if_true, if_false, decide_eq_true_eq, Vu, Vv, Vw, Vx, decide_eq_false_iff_not, reduceCtorEq, not_true_eq_false, not_false_eq_true, decide_true, decide_false]
        split
        · rename_i h5
          rw [if_pos (.inl fun y => h5 y.symm)] at z
          exact z _ _ sf no
        · rename_i h5
          have h5 : name = l.name := Decidable.not_not.mp h5
          refine rd_Keeper_number T upd_same ?_
          refine rd_ltP (tf _ _ hq) (tf _ _ e3) ?_
          try simp only [Y0, Y1, Y2, Y3, Y4, Y5, Y6, Y7, Y8, Y9, Ya, Yb, Yc, Yd, Ye, Yf, Yg, Yh, Yi, Yj, Yk, Yl, Ym, Yn, Yo, Yp, Yq, Yr, Ys, Yt, Yu, Yv, Yw, Yx, Yy, Yz, Z0, Z1, Z2, Z3, Z4, Z5, Z6, Z7, Z8, Z9, Za, Zb, Zc, Zd, Ze, Zf, Zg, Zh, Zi, Zj, Zk, Zl, Zm, Zn, Zo, Zp, Zq, Zr, Zs, Zt, Zu, Zv, Zw, Zx, Zy, Zz, V0, V1, V2, V3, V4, V5, V6, V7, V8, V9, Va, Vb, Vc, Vd, Ve, Vf, exists_eq_left', exists_eq_left, Vi, Vj, Vk, Vl, Vm, exists_and_left, Vo, and_true, true_and, if_true, if_false, decide_eq_true_eq, Vu, Vv, Vw, Vx, decide_eq_false_iff_not, reduceCtorEq, not_true_eq_false, not_false_eq_true, decide_true, decide_false]
          split
          · rename_i h6
            rw [if_pos (.inr h6)] at z
            exact z _ _ sf no
          · rename_i h6
            rw [if_neg (fun y => y.elim (fun y => y h5.symm) h6)] at z
            refine k2 _ _ ?_
            clear k2 R2
            try simp only [Y0, Y1, Y2, Y3, Y4, Y5, Y6, Y7, Y8, Y9, Ya, Yb, Yc, Yd, Ye, Yf, Yg, Yh, Yi, Yj, Yk, Yl, Ym, Yn, Yo, Yp, Yq, Yr, Ys, Yt, Yu, Yv, Yw, Yx, Yy, Yz, Z0, Z1, Z2, Z3, Z4, Z5, Z6, Z7, Z8, Z9, Za, Zb, Zc, Zd, Ze, Zf, Zg, Zh, Zi, Zj, Zk, Zl, Zm, Zn, Zo, Zp, Zq, Zr, Zs, Zt, Zu, Zv, Zw, Zx, Zy, Zz, V0, V1, V2, V3, V4, V5, V6, V7, V8, V9, Va, Vb, Vc, Vd, Ve, Vf, exists_eq_left', exists_eq_left, Vi, Vj, Vk, Vl, Vm, exists_and_left, Vo, and_true, true_and, if_true, if_false, decide_eq_true_eq, Vu, Vv, Vw, Vx, decide_eq_false_iff_not, reduceCtorEq, not_true_eq_false, not_false_eq_true, decide_true, decide_false]
            refine rd_Keeper_number T upd_same ?_
            refine rd_eqP (tf _ _ hq) (tf _ _ e3) ?_
            try simp only [Y0, Y1, Y2, Y3, Y4, Y5, Y6, Y7, Y8, Y9, Ya, Yb, Yc, Yd, Ye, Yf, Yg, Yh, Yi, Yj, Yk, Yl, Ym, Yn, Yo, Yp, Yq, Yr, Ys, Yt, Yu, Yv, Yw, Yx, Yy, Yz, Z0, Z1, Z2, Z3, Z4, Z5, Z6, Z7, Z8, Z9, Za, Zb, Zc, Zd, Ze, Zf, Zg, Zh, Zi, Zj, Zk, Zl, Zm, Zn, Zo, Zp, Zq, Zr, Zs, Zt, Zu, Zv, Zw, Zx, Zy, Zz, V0, V1, V2, V3, V4, V5, V6, V7, V8, V9, Va, Vb, Vc, Vd, Ve, Vf, exists_eq_left', exists_eq_left, Vi, Vj, Vk, Vl, Vm, exists_and_left, Vo, and_true, true_and, if_true, if_false, decide_eq_true_eq, Vu, Vv, Vw, Vx, decide_eq_false_iff_not, reduceCtorEq, not_true_eq_false, not_false_eq_true, decide_true, decide_false]
            split
            · rename_i h7
              rw [if_pos h7] at z
              exact z _ _ sf no
            · rename_i h7
              rw [if_neg h7] at z
              exact set _ _ (z _ _ sf ye)
    · rename_i h2
      rw [if_neg fun y => h2 (hov.mpr y)] at z
      exact set _ _ (z _ _ sf ye)
end
end K11

set_option Elab.async false
set_option linter.all false
set_option maxRecDepth 100000
set_option maxHeartbeats 4000000
namespace K11
open PySem L2
open L2 renaming rEq_int → Y0, rNe_int → Y1, rNe_bl → Y2, rEq_str → Y3, rEq_noni → Y4, rNe_noni → Y5, tPairs → Y6, tDisp → Y7, tAsg → Y8, gName → Y9, tOp → Ya, tUn → Yb, tVar → Yc, tC → Yd, rI → Ye, rI0 → Yf, rU → Yg, tCall → Yh, tCons → Yi, tNil → Yj, tRet → Yk, tRetN → Yl, tDrop → Ym, tNext → Yn, tIfS → Yo, tTest → Yp, tChain → Yq, tChain3 → Yr, tCB → Ys, tNot → Yt, tAnd → Yu, tOr → Yv, tAndV → Yw, tOrV → Yx, tNotV → Yy, tIf → Yz, tB → Z0, tIsN → Z1, tNotN → Z2, tTup → Z3, tLst → Z4, tTru → Z5, xFld → Z6, xNotN → Z7, tAug → Z8, ipI → Z9, sFldAug_eq → Za, tDPop1 → Zb, tSortR → Zc, rEq_bl → Zd, rEq_inon → Ze, rNe_inon → Zf, xCall → Zg, xMake → Zh, xMeth → Zi, xIf → Zj, xSet → Zk, xExpr → Zl, xRet → Zm, xRaise → Zn, xRaise0 → Zo, tFld_eq → Zp, sFld_eq → Zq, tMeth_eq → Zr, tMake → Zs, tPar → Zt, tDGet_eq → Zu, sDPut_eq → Zv, tDIn_eq → Zw, tDNotIn_eq → Zx, tTrue → Zy, tComp → Zz, caps → V0, tBM → V1, cxOf_K → V2, start → V3
open _root_.List renaming map_cons → V4, map_nil → V5, length_cons → V6, length_nil → V7, replicate → V8, cons_append → Va, nil_append → Vb, append_nil → Vc, getElem?_cons_zero → Vd, getElem?_cons_succ → Ve, set_cons_zero → Vl, set_cons_succ → Vm
open _root_.Nat renaming sub_self → V9
open _root_.Option.some renaming injEq → Vf
open L2.V.int renaming injEq → Vi
open L2.V.bl renaming injEq → Vj
open L2.V.ref renaming injEq → Vk
open _root_.List.cons renaming injEq → Vo
open _root_.Bool renaming false_eq_true → Vu, not_true → Vv, not_false → Vw, not_eq_true' → Vx
/-! a holder as the document has it, without a heap -/
/-- how the law's own holder stands -/
structure HW where
  c : Int
  first : Int
  life : Int
  many : Int
  asks : Int → Int → Option Int
  ends : List Int
/-- what is told: nothing or a truth or a number or a word, or a pair -/
inductive Res where
  | v (x : V)
  | pair (a b : Int)
def srt (ns : List Int) : List Int := ns.mergeSort (fun a b => decide (a ≤ b))
def goodE (h : HW) (clock : Int) : List Int := h.ends.filter fun e => decide (clock < e)
def holdsB (n : Int) (h : HW) (clock : Int) : Bool := decide (n < 2 * ((goodE h clock).length : Int))
def hdue (n len : Int) (h : HW) (way clock keeper a b : Int) : Res × HW :=
  if way = 1 ∧ ¬ (0 ≤ keeper ∧ keeper < n) then (.v (.str "keeper"), h)
  else if clock < h.c then (.v (.str "back"), h)
  else if way = 4 ∧ h.many = 0 then (.v (.str "asked"), h)
  else if way = 0 then (.pair h.life h.many, { h with c := clock, asks := fun x y => if x = h.life ∧ y = h.many then some clock else h.asks x y, many := h.many + 1 })
  else if way = 1 then (.v .non, match h.asks a b with
    | some t => { h with c := clock, ends := h.ends.set keeper.toNat (max (h.ends.getD keeper.toNat 0) (t + len)) }
    | none => { h with c := clock })
  else if way = 4 then (.pair h.life (h.many - 1), { h with c := clock, asks := fun _ _ => none, ends := List.replicate n.toNat h.first })
  else if way = 2 then (.v (.bl (holdsB n h clock)), { h with c := clock })
  else (.v (if holdsB n h clock = true then .int ((srt (goodE h clock)).getD ((goodE h clock).length - (n / 2).toNat - 1) 0) else .non), { h with c := clock })
end K11

set_option Elab.async false
set_option linter.all false
set_option maxRecDepth 100000
set_option maxHeartbeats 4000000
namespace K11
open PySem L2
open L2 renaming rEq_int → Y0, rNe_int → Y1, rNe_bl → Y2, rEq_str → Y3, rEq_noni → Y4, rNe_noni → Y5, tPairs → Y6, tDisp → Y7, tAsg → Y8, gName → Y9, tOp → Ya, tUn → Yb, tVar → Yc, tC → Yd, rI → Ye, rI0 → Yf, rU → Yg, tCall → Yh, tCons → Yi, tNil → Yj, tRet → Yk, tRetN → Yl, tDrop → Ym, tNext → Yn, tIfS → Yo, tTest → Yp, tChain → Yq, tChain3 → Yr, tCB → Ys, tNot → Yt, tAnd → Yu, tOr → Yv, tAndV → Yw, tOrV → Yx, tNotV → Yy, tIf → Yz, tB → Z0, tIsN → Z1, tNotN → Z2, tTup → Z3, tLst → Z4, tTru → Z5, xFld → Z6, xNotN → Z7, tAug → Z8, ipI → Z9, sFldAug_eq → Za, tDPop1 → Zb, tSortR → Zc, rEq_bl → Zd, rEq_inon → Ze, rNe_inon → Zf, xCall → Zg, xMake → Zh, xMeth → Zi, xIf → Zj, xSet → Zk, xExpr → Zl, xRet → Zm, xRaise → Zn, xRaise0 → Zo, tFld_eq → Zp, sFld_eq → Zq, tMeth_eq → Zr, tMake → Zs, tPar → Zt, tDGet_eq → Zu, sDPut_eq → Zv, tDIn_eq → Zw, tDNotIn_eq → Zx, tTrue → Zy, tComp → Zz, caps → V0, tBM → V1, cxOf_K → V2, start → V3
open _root_.List renaming map_cons → V4, map_nil → V5, length_cons → V6, length_nil → V7, replicate → V8, cons_append → Va, nil_append → Vb, append_nil → Vc, getElem?_cons_zero → Vd, getElem?_cons_succ → Ve, set_cons_zero → Vl, set_cons_succ → Vm
open _root_.Nat renaming sub_self → V9
open _root_.Option.some renaming injEq → Vf
open L2.V.int renaming injEq → Vi
open L2.V.bl renaming injEq → Vj
open L2.V.ref renaming injEq → Vk
open _root_.List.cons renaming injEq → Vo
open _root_.Bool renaming false_eq_true → Vu, not_true → Vv, not_false → Vw, not_eq_true' → Vx
/-! the asks that still count, as the program's dict has them: one behind another -/
def asksK (lo : Int) : List Int → List (Key × V)
  | [] => []
  | x :: cs => (Sum.inl lo, .int x) :: asksK (lo + 1) cs
theorem asksK_len : ∀ {cs : List Int} {lo : Int}, (asksK lo cs).length = cs.length
  | [], _ => rfl
  | _ :: cs, lo => by
    show (asksK (lo + 1) cs).length + 1 = cs.length + 1
    rw [asksK_len]
theorem asksK_key : ∀ {cs : List Int} {lo : Int} (kv : Key × V), kv ∈ asksK lo cs → ∃ b : Int, kv.1 = Sum.inl b ∧ lo ≤ b ∧ b < lo + cs.length
  | [], _, _, h => by cases h
  | x :: cs, lo, kv, h => by
    rcases List.mem_cons.mp h with e | h
    · subst e
      exact ⟨lo, rfl, Int.le_refl _, by rw [List.length_cons]; omega⟩
    · obtain ⟨b, e, h1, h2⟩ := asksK_key kv h
      exact ⟨b, e, by omega, by rw [List.length_cons]; omega⟩
theorem asksK_out {cs : List Int} {lo b : Int} (h : ¬ (lo ≤ b ∧ b < lo + cs.length)) : ∀ kv ∈ asksK lo cs, ¬ kv.1 = Sum.inl b := fun kv hkv e => by
  obtain ⟨b', e', h1, h2⟩ := asksK_key kv hkv
  rw [e] at e'
  cases e'
  exact h ⟨h1, h2⟩
theorem asksK_first {x : Int} {cs : List Int} {lo : Int} : valV (asksK lo (x :: cs)) (Sum.inl lo) = some (.int x) := valV_pos rfl
theorem asksK_drop {x : Int} {cs : List Int} {lo : Int} : dropK (asksK lo (x :: cs)) (Sum.inl lo) = asksK (lo + 1) cs := by
  unfold dropK
  show List.filter _ ((Sum.inl lo, .int x) :: asksK (lo + 1) cs) = _
  rw [List.filter_cons_of_neg (by simp)]
  refine List.filter_eq_self.mpr fun kv hkv => ?_
  exact decide_eq_true (asksK_out (by omega) kv hkv)
theorem asksK_app {y : Int} : ∀ {cs : List Int} {lo : Int}, asksK lo (cs ++ [y]) = asksK lo cs ++ [(Sum.inl (lo + cs.length), .int y)]
  | [], lo => by
    show [(Sum.inl lo, V.int y)] = [(Sum.inl (lo + ((0 : Nat) : Int)), V.int y)]
    rw [Int.natCast_zero, Int.add_zero]
  | x :: cs, lo => by
    show (Sum.inl lo, V.int x) :: asksK (lo + 1) (cs ++ [y]) = (Sum.inl lo, V.int x) :: (asksK (lo + 1) cs ++ _)
    rw [asksK_app, List.length_cons, show lo + 1 + (cs.length : Int) = lo + ((cs.length + 1 : Nat) : Int) by omega]
theorem asksK_put {y b : Int} {cs : List Int} {lo : Int} (hb : b = lo + cs.length) : putK (asksK lo cs) (Sum.inl b) (.int y) = asksK lo (cs ++ [y]) := by
  unfold putK
  rw [if_neg, asksK_app, hb]
  intro h
  rw [List.any_eq_true] at h
  obtain ⟨kv, h1, h2⟩ := h
  exact asksK_out (by omega) kv h1 (of_decide_eq_true h2)
theorem asksK_val : ∀ {cs : List Int} {lo b : Int} {v : V}, valV (asksK lo cs) (Sum.inl b) = some v → ∃ x : Int, v = .int x
  | [], _, _, _, h => by cases h
  | x :: cs, lo, b, v, h => by
    by_cases e : lo = b
    · subst e
      rw [asksK_first] at h
      cases h
      exact ⟨x, rfl⟩
    · rw [show asksK lo (x :: cs) = (Sum.inl lo, .int x) :: asksK (lo + 1) cs from rfl, valV_neg (fun y => e (Sum.inl.inj y))] at h
      exact asksK_val h
/-- those that are forgotten -/
theorem asksK_forget {b x : Int} : ∀ (j : Nat) {cs : List Int} {lo : Int}, j ≤ cs.length → valV (asksK lo cs) (Sum.inl b) = some (.int x) → x ∈ cs.take j ∨ valV (asksK (lo + j) (cs.drop j)) (Sum.inl b) = some (.int x)
  | 0, cs, lo, _, h => .inr (by rw [List.drop_zero, Int.natCast_zero, Int.add_zero]; exact h)
  | j + 1, [], lo, hj, h => by cases h
  | j + 1, y :: cs, lo, hj, h => by
    by_cases e : lo = b
    · subst e
      rw [asksK_first] at h
      cases h
      exact .inl List.mem_cons_self
    · rw [show asksK lo (y :: cs) = (Sum.inl lo, .int y) :: asksK (lo + 1) cs from rfl, valV_neg (fun y => e (Sum.inl.inj y))] at h
      rcases asksK_forget j (Nat.le_of_succ_le_succ hj) h with z | z
      · exact .inl (List.mem_cons_of_mem _ z)
      · refine .inr ?_
        rw [List.drop_succ_cons, show lo + ((j + 1 : Nat) : Int) = lo + 1 + (j : Int) by omega]
        exact z
theorem asksK_kept {b x : Int} : ∀ (j : Nat) {cs : List Int} {lo : Int}, j ≤ cs.length → valV (asksK (lo + j) (cs.drop j)) (Sum.inl b) = some (.int x) → valV (asksK lo cs) (Sum.inl b) = some (.int x)
  | 0, cs, lo, _, h => by rw [List.drop_zero, Int.natCast_zero, Int.add_zero] at h; exact h
  | j + 1, [], lo, hj, h => by cases h
  | j + 1, y :: cs, lo, hj, h => by
    rw [List.drop_succ_cons, show lo + ((j + 1 : Nat) : Int) = lo + 1 + (j : Int) by omega] at h
    have h := asksK_kept j (Nat.le_of_succ_le_succ hj) h
    have e : ¬ lo = b := fun e => by
      have g : valV (asksK (lo + 1) cs) (Sum.inl b) = none := by
        unfold valV
        rw [List.find?_eq_none.mpr fun kv hkv => by
          have := asksK_out (lo := lo + 1) (b := b) (by omega) kv hkv
          simpa using this]
        rfl
      rw [g] at h
      cases h
    rw [show asksK lo (y :: cs) = (Sum.inl lo, .int y) :: asksK (lo + 1) cs from rfl, valV_neg (fun y => e (Sum.inl.inj y))]
    exact h
/-! the ends: alike, or both over -/
def EndR (c : Int) : List Int → List Int → Prop
  | [], [] => True
  | x :: xs, y :: ys => (x = y ∨ x ≤ c ∧ y ≤ c) ∧ EndR c xs ys
  | _, _ => False
theorem EndR.mono {c c' : Int} (h : c ≤ c') : ∀ {xs ys : List Int}, EndR c xs ys → EndR c' xs ys
  | [], [], _ => trivial
  | x :: xs, y :: ys, ⟨h1, h2⟩ => ⟨h1.elim .inl fun z => .inr ⟨by omega, by omega⟩, EndR.mono h h2⟩
theorem EndR.len {c : Int} : ∀ {xs ys : List Int}, EndR c xs ys → xs.length = ys.length
  | [], [], _ => rfl
  | x :: xs, y :: ys, ⟨_, h2⟩ => by rw [List.length_cons, List.length_cons, EndR.len h2]
theorem EndR.at_ {c : Int} : ∀ {xs ys : List Int} (i : Nat), EndR c xs ys → xs.getD i 0 = ys.getD i 0 ∨ xs.getD i 0 ≤ c ∧ ys.getD i 0 ≤ c
  | [], [], _, _ => .inl rfl
  | x :: xs, y :: ys, 0, ⟨h1, _⟩ => h1
  | x :: xs, y :: ys, i + 1, ⟨_, h2⟩ => EndR.at_ i h2
theorem EndR.set {c a b : Int} (hab : a = b ∨ a ≤ c ∧ b ≤ c) : ∀ {xs ys : List Int} (i : Nat), EndR c xs ys → EndR c (xs.set i a) (ys.set i b)
  | [], [], _, _ => trivial
  | x :: xs, y :: ys, 0, ⟨_, h2⟩ => ⟨hab, h2⟩
  | x :: xs, y :: ys, i + 1, ⟨h1, h2⟩ => ⟨h1, EndR.set hab i h2⟩
theorem EndR.set1 {c b : Int} : ∀ {xs ys : List Int} (i : Nat), (xs.getD i 0 = b ∨ xs.getD i 0 ≤ c ∧ b ≤ c) → EndR c xs ys → EndR c xs (ys.set i b)
  | [], [], _, _, _ => trivial
  | x :: xs, y :: ys, 0, hab, ⟨_, h2⟩ => ⟨hab, h2⟩
  | x :: xs, y :: ys, i + 1, hab, ⟨h1, h2⟩ => ⟨h1, EndR.set1 i hab h2⟩
theorem EndR.rep {c a b : Int} (h : a ≤ c ∧ b ≤ c) : ∀ (n : Nat), EndR c (List.replicate n a) (List.replicate n b)
  | 0 => trivial
  | n + 1 => ⟨.inr h, EndR.rep h n⟩
theorem EndR.good {c clock : Int} (h : c ≤ clock) : ∀ {xs ys : List Int}, EndR c xs ys → xs.filter (fun e => decide (clock < e)) = ys.filter (fun e => decide (clock < e))
  | [], [], _ => rfl
  | x :: xs, y :: ys, ⟨h1, h2⟩ => by
    rcases h1 with e | ⟨e1, e2⟩
    · subst e
      rw [List.filter_cons, List.filter_cons, EndR.good h h2]
    · rw [List.filter_cons_of_neg (by simp; omega), List.filter_cons_of_neg (by simp; omega), EndR.good h h2]
/-! the reading with which most let no more -/
theorem filter_front {clock : Int} : ∀ {ms : List Int}, ms.Pairwise (· ≥ ·) → ∃ B, ms = ms.filter (fun e => decide (clock < e)) ++ B ∧ ∀ x ∈ B, x ≤ clock
  | [], _ => ⟨[], rfl, fun _ h => by cases h⟩
  | x :: ms, h => by
    obtain ⟨h1, h2⟩ := List.pairwise_cons.mp h
    by_cases e : clock < x
    · obtain ⟨B, e1, e2⟩ := filter_front (clock := clock) h2
      refine ⟨B, ?_, e2⟩
      rw [List.filter_cons_of_pos (by simpa using e), List.cons_append, ← e1]
    · refine ⟨x :: ms, ?_, fun y hy => ?_⟩
      · rw [List.filter_eq_nil_iff.mpr, List.nil_append]
        intro y hy
        rcases List.mem_cons.mp hy with z | z
        · subst z; simpa using e
        · have := h1 y z
          simp
          omega
      · rcases List.mem_cons.mp hy with z | z
        · subst z; omega
        · have := h1 y z
          omega
theorem srt_eq {ms ns : List Int} (pw : ms.Pairwise (· ≤ ·)) (pm : ms.Perm ns) : ms = srt ns := by
  refine List.Perm.eq_of_pairwise (le := fun a b : Int => a ≤ b) (fun a b _ _ h1 h2 => Int.le_antisymm h1 h2) pw ?_ (pm.trans (List.mergeSort_perm _ _).symm)
  refine (List.pairwise_mergeSort (le := fun a b : Int => decide (a ≤ b)) ?_ ?_ _).imp fun h => of_decide_eq_true h
  · intro a b c h1 h2
    exact decide_eq_true (Int.le_trans (of_decide_eq_true h1) (of_decide_eq_true h2))
  · intro a b
    rw [Bool.or_eq_true, decide_eq_true_iff, decide_eq_true_iff]
    omega
theorem most_end {ms es : List Int} {clock : Int} {k : Nat} (pm : ms.Perm es) (pw : ms.Pairwise (· ≥ ·)) (hk : k < ms.length) :
    (clock < ms.getD k 0 ↔ k < (es.filter fun e => decide (clock < e)).length) ∧ (k < (es.filter fun e => decide (clock < e)).length → ms.getD k 0 = (srt (es.filter fun e => decide (clock < e))).getD ((es.filter fun e => decide (clock < e)).length - k - 1) 0) := by
  obtain ⟨B, e1, e2⟩ := filter_front (clock := clock) pw
  have pf : (ms.filter fun e => decide (clock < e)).Perm (es.filter fun e => decide (clock < e)) := pm.filter _
  have pl := pf.length_eq
  have pa : ∀ x ∈ ms.filter (fun e => decide (clock < e)), clock < x := fun x hx => of_decide_eq_true (List.mem_filter.mp hx).2
  have ps : (ms.filter fun e => decide (clock < e)).reverse = srt (es.filter fun e => decide (clock < e)) := srt_eq (List.pairwise_reverse.mpr (pw.sublist List.filter_sublist)) ((List.reverse_perm _).trans pf)
  rw [← ps, ← pl]
  generalize ms.filter (fun e => decide (clock < e)) = A at *
  subst e1
  rw [List.getD_eq_getElem?_getD]
  by_cases hkA : k < A.length
  · have ea : (A ++ B)[k]? = some A[k] := by rw [List.getElem?_append_left hkA, List.getElem?_eq_getElem hkA]
    rw [ea]
    refine ⟨⟨fun _ => hkA, fun _ => pa _ (List.getElem_mem _)⟩, fun _ => ?_⟩
    rw [List.getD_eq_getElem?_getD, List.getElem?_reverse (by omega), show A.length - 1 - (A.length - k - 1) = k by omega, List.getElem?_eq_getElem hkA]
  · refine ⟨⟨fun h => ?_, fun h => absurd h hkA⟩, fun h => absurd h hkA⟩
    rw [List.length_append] at hk
    have hb : k - A.length < B.length := by omega
    rw [List.getElem?_append_right (by omega), List.getElem?_eq_getElem hb] at h
    have := e2 _ (List.getElem_mem hb)
    exact absurd h (by show ¬ clock < B[k - A.length]; omega)
end K11

set_option Elab.async false
set_option linter.all false
set_option maxRecDepth 100000
set_option maxHeartbeats 4000000
namespace K11
open PySem L2
open L2 renaming rEq_int → Y0, rNe_int → Y1, rNe_bl → Y2, rEq_str → Y3, rEq_noni → Y4, rNe_noni → Y5, tPairs → Y6, tDisp → Y7, tAsg → Y8, gName → Y9, tOp → Ya, tUn → Yb, tVar → Yc, tC → Yd, rI → Ye, rI0 → Yf, rU → Yg, tCall → Yh, tCons → Yi, tNil → Yj, tRet → Yk, tRetN → Yl, tDrop → Ym, tNext → Yn, tIfS → Yo, tTest → Yp, tChain → Yq, tChain3 → Yr, tCB → Ys, tNot → Yt, tAnd → Yu, tOr → Yv, tAndV → Yw, tOrV → Yx, tNotV → Yy, tIf → Yz, tB → Z0, tIsN → Z1, tNotN → Z2, tTup → Z3, tLst → Z4, tTru → Z5, xFld → Z6, xNotN → Z7, tAug → Z8, ipI → Z9, sFldAug_eq → Za, tDPop1 → Zb, tSortR → Zc, rEq_bl → Zd, rEq_inon → Ze, rNe_inon → Zf, xCall → Zg, xMake → Zh, xMeth → Zi, xIf → Zj, xSet → Zk, xExpr → Zl, xRet → Zm, xRaise → Zn, xRaise0 → Zo, tFld_eq → Zp, sFld_eq → Zq, tMeth_eq → Zr, tMake → Zs, tPar → Zt, tDGet_eq → Zu, sDPut_eq → Zv, tDIn_eq → Zw, tDNotIn_eq → Zx, tTrue → Zy, tComp → Zz, caps → V0, tBM → V1, cxOf_K → V2, start → V3
open _root_.List renaming map_cons → V4, map_nil → V5, length_cons → V6, length_nil → V7, replicate → V8, cons_append → Va, nil_append → Vb, append_nil → Vc, getElem?_cons_zero → Vd, getElem?_cons_succ → Ve, set_cons_zero → Vl, set_cons_succ → Vm
open _root_.Nat renaming sub_self → V9
open _root_.Option.some renaming injEq → Vf
open L2.V.int renaming injEq → Vi
open L2.V.bl renaming injEq → Vj
open L2.V.ref renaming injEq → Vk
open _root_.List.cons renaming injEq → Vo
open _root_.Bool renaming false_eq_true → Vu, not_true → Vv, not_false → Vw, not_eq_true' → Vx
/-! the program's holder -/
abbrev hf (len mj nm life latest told : Int) (da de : Addr) : List (Str × V) := flds_Holder (.int len) (.int mj) (.int nm) (.int life) (.int latest) (.int told) (.ref da) (.ref de)
/-- the asks that count are in the dict, or over -/
def AskOk (len : Int) (h : HW) (lo : Int) (cs : List Int) : Prop := (∀ a b x, h.asks a b = some x → a = h.life ∧ (x + len ≤ h.c ∨ valV (asksK lo cs) (Sum.inl b) = some (.int x))) ∧ ∀ b x, valV (asksK lo cs) (Sum.inl b) = some (.int x) → h.asks h.life b = some x
/-- the holder stands in the heap as the law's own holder does; S are its own objects -/
def HAt (t : Adr) (H : Hp) (p : Addr) (S : List Addr) (n len : Int) (h : HW) : Prop := ∃ (dx da de : Addr) (nm lo : Int) (cs es : List Int), S = [p, da, de] ∧ H p = some (.ins t.Holder dx (hf len (n / 2 + 1) nm h.life h.c h.many da de)) ∧
  H da = some (.dK (asksK lo cs)) ∧ H de = some (.lst (es.map V.int)) ∧ lo + cs.length = h.many ∧ 0 ≤ lo ∧ h.many ≤ 1000 ∧ AskOk len h lo cs ∧ EndR h.c es h.ends ∧ (es.length : Int) = n ∧ h.first ≤ h.c ∧ Small h.c
theorem HAt.some {t : Adr} {H : Hp} {p : Addr} {S : List Addr} {n len : Int} {h : HW} (k : HAt t H p S n len h) : p ∈ S ∧ ∀ x, x ∈ S → ∃ o, H x = some o ∧ ¬ Fx t o := by
  obtain ⟨dx, da, de, nm, lo, cs, es, rfl, h1, h2, h3, _⟩ := k
  refine ⟨List.mem_cons_self, fun x hx => ?_⟩
  simp only [List.mem_cons, List.not_mem_nil, or_false] at hx
  rcases hx with rfl | rfl | rfl
  · exact ⟨_, h1, by
      rintro (⟨_, z⟩ | ⟨_, _, _, _, _, z⟩)
      · cases z
      · injection z with _ _ z
        exact absurd (congrArg List.length z) (show ¬ (8 : Nat) = 4 by decide)⟩
  · exact ⟨_, h2, by rintro (⟨_, z⟩ | ⟨_, _, _, _, _, z⟩) <;> cases z⟩
  · exact ⟨_, h3, by rintro (⟨_, z⟩ | ⟨_, _, _, _, _, z⟩) <;> cases z⟩
theorem HAt.meth {t : Adr} {H : Hp} {p : Addr} {S : List Addr} {n len : Int} {h : HW} (k : HAt t H p S n len h) : ∃ dx fs, H p = Option.some (.ins t.Holder dx fs) ∧ fs.lookup ("ask" : Str) = none ∧ fs.lookup ("hear" : Str) = none ∧ fs.lookup ("holds" : Str) = none ∧ fs.lookup ("until" : Str) = none ∧ fs.lookup ("free" : Str) = none := by
  obtain ⟨dx, da, de, nm, lo, cs, es, rfl, h1, _⟩ := k
  exact ⟨_, _, h1, no_Holder_ask, no_Holder_hear, no_Holder_holds, no_Holder_until, no_Holder_free⟩
theorem HAt.frame {t : Adr} {H H' : Hp} {p : Addr} {S : List Addr} {n len : Int} {h : HW} (k : HAt t H p S n len h) (f : ∀ x o, H x = Option.some o → x ∈ S → H' x = Option.some o) (ft : ∀ x o, H x = Option.some o → Fx t o → H' x = Option.some o) : HAt t H' p S n len h := by
  obtain ⟨dx, da, de, nm, lo, cs, es, rfl, h1, h2, h3, h4⟩ := k
  exact ⟨dx, da, de, nm, lo, cs, es, rfl, f _ _ h1 (by simp), f _ _ h2 (by simp), f _ _ h3 (by simp), h4⟩
theorem HAt.foot {t : Adr} {p : Addr} {S : List Addr} {n len : Int} {h : HW} : Foot t S (fun H => HAt t H p S n len h) := ⟨fun H h => h.some.2, fun H H' h f ft => h.frame f ft⟩
/-- the class that a word stands for -/
def clsOf (t : Adr) (x : Str) : Addr := if x = ("back" : Str) then t.Back else if x = ("keeper" : Str) then t.NoKeeper else t.NotAsked
/-- what is answered or raised -/
def Out (t : Adr) (Q : VK) (E : XK) (H' : Hp) : Res → Prop
  | .v (.str x) => E (.ref (clsOf t x)) none H'
  | .v x => Q x H'
  | .pair a b => ∀ r, H' r = some (.tup [.int a, .int b]) → Q (.ref r) H'
/-- a method by the law's own holder -/
def sp_hway (t : Adr) (way : Int) (args : Int → Int → Addr → List V) : Sp := fun vs H Q E => ∃ (p : Addr) (S : List Addr) (n len : Int) (h : HW) (clock keeper : Int) (q : Addr) (a b : Int), vs = .ref p :: args clock keeper q ∧ HAt t H p S n len h ∧ 1 ≤ n ∧ n ≤ 5 ∧ h.many < 1000 ∧ Small clock ∧ Small keeper ∧ Small len ∧
  (way = 1 → H q = some (.tup [.int a, .int b])) ∧ ∀ H' S', Fr H H' S S' → HAt t H' p S' n len (hdue n len h way clock keeper a b).2 → Out t Q E H' (hdue n len h way clock keeper a b).1
abbrev sp_Holder_ask (t : Adr) : Sp := sp_hway t 0 fun c _ _ => [.int c]
abbrev sp_Holder_hear (t : Adr) : Sp := sp_hway t 1 fun c k q => [.int c, .int k, .ref q]
abbrev sp_Holder_holds (t : Adr) : Sp := sp_hway t 2 fun c _ _ => [.int c]
abbrev sp_Holder_until (t : Adr) : Sp := sp_hway t 3 fun c _ _ => [.int c]
abbrev sp_Holder_free (t : Adr) : Sp := sp_hway t 4 fun c _ _ => [.int c]
def sp_Holder_init (t : Adr) : Sp := fun vs H Q _ => ∃ (p dx tm dt : Addr) (lo hi le ke name life c : Int), vs = [.ref p, .ref tm, .int name, .int life, .int c] ∧ H p = some (.ins t.Holder dx []) ∧ H tm = some (.ins t.Terms dt (terms lo hi le ke)) ∧ good lo hi le ke ∧ Small c ∧
  ∀ H' S, (∀ x o, H x = some o → x ≠ p → H' x = some o) → (∀ x, x ∈ S → x = p ∨ H x = none) → HAt t H' p S ke le ⟨c, c, life, 0, fun _ _ => none, List.replicate ke.toNat c⟩ → Q .non H'
/-! how the law's own holder answers, way by way -/
section
variable {n len way clock keeper a b : Int} {h : HW}
theorem hdue_no (h0 : ¬ (0 ≤ keeper ∧ keeper < n)) : hdue n len h 1 clock keeper a b = (.v (.str "keeper"), h) := by unfold hdue; rw [if_pos ⟨rfl, h0⟩]
theorem hdue_back (h0 : ¬ (way = 1 ∧ ¬ (0 ≤ keeper ∧ keeper < n))) (h1 : clock < h.c) : hdue n len h way clock keeper a b = (.v (.str "back"), h) := by unfold hdue; rw [if_neg h0, if_pos h1]
theorem hdue_ask (h1 : ¬ clock < h.c) : hdue n len h 0 clock keeper a b = (.pair h.life h.many, { h with c := clock, asks := fun x y => if x = h.life ∧ y = h.many then some clock else h.asks x y, many := h.many + 1 }) := by
  unfold hdue; rw [if_neg (by rintro ⟨y, _⟩; exact absurd y (by decide)), if_neg h1, if_neg (by rintro ⟨y, _⟩; exact absurd y (by decide)), if_pos rfl]
theorem hdue_hear (h0 : 0 ≤ keeper ∧ keeper < n) (h1 : ¬ clock < h.c) : hdue n len h 1 clock keeper a b = (.v .non, match h.asks a b with
    | some t => { h with c := clock, ends := h.ends.set keeper.toNat (max (h.ends.getD keeper.toNat 0) (t + len)) }
    | none => { h with c := clock }) := by
  unfold hdue; rw [if_neg (fun y => y.2 h0), if_neg h1, if_neg (by rintro ⟨y, _⟩; exact absurd y (by decide)), if_neg (by decide), if_pos rfl]
  all_goals (cases h.asks a b <;> rfl)
theorem hdue_holds (h1 : ¬ clock < h.c) : hdue n len h 2 clock keeper a b = (.v (.bl (holdsB n h clock)), { h with c := clock }) := by
  unfold hdue; rw [if_neg (by rintro ⟨y, _⟩; exact absurd y (by decide)), if_neg h1, if_neg (by rintro ⟨y, _⟩; exact absurd y (by decide)), if_neg (by decide), if_neg (by decide), if_neg (by decide), if_pos rfl]
theorem hdue_until (h1 : ¬ clock < h.c) : hdue n len h 3 clock keeper a b = (.v (if holdsB n h clock = true then .int ((srt (goodE h clock)).getD ((goodE h clock).length - (n / 2).toNat - 1) 0) else .non), { h with c := clock }) := by
  unfold hdue; rw [if_neg (by rintro ⟨y, _⟩; exact absurd y (by decide)), if_neg h1, if_neg (by rintro ⟨y, _⟩; exact absurd y (by decide)), if_neg (by decide), if_neg (by decide), if_neg (by decide), if_neg (by decide)]
theorem hdue_asked (h1 : ¬ clock < h.c) (h2 : h.many = 0) : hdue n len h 4 clock keeper a b = (.v (.str "asked"), h) := by
  unfold hdue; rw [if_neg (by rintro ⟨y, _⟩; exact absurd y (by decide)), if_neg h1, if_pos ⟨rfl, h2⟩]
theorem hdue_free (h1 : ¬ clock < h.c) (h2 : ¬ h.many = 0) : hdue n len h 4 clock keeper a b = (.pair h.life (h.many - 1), { h with c := clock, asks := fun _ _ => none, ends := List.replicate n.toNat h.first }) := by
  unfold hdue; rw [if_neg (by rintro ⟨y, _⟩; exact absurd y (by decide)), if_neg h1, if_neg (fun y => h2 y.2), if_neg (by decide), if_neg (by decide), if_pos rfl]
end
theorem cls_back {t : Adr} : clsOf t "back" = t.Back := if_pos rfl
theorem cls_keeper {t : Adr} : clsOf t "keeper" = t.NoKeeper := by unfold clsOf; rw [if_neg (by decide), if_pos rfl]
theorem cls_asked {t : Adr} : clsOf t "asked" = t.NotAsked := by unfold clsOf; rw [if_neg (by decide), if_neg (by decide)]
theorem rep_flat {f : Int} : ∀ {k : Nat}, (List.replicate k [V.int f]).flatten = (List.replicate k f).map V.int
  | 0 => rfl
  | k + 1 => by
    rw [List.replicate_succ, List.flatten_cons, rep_flat, List.replicate_succ]
    rfl
theorem fr3 {H H' : Hp} {p da de : Addr} (f : ∀ x o, H x = some o → x ≠ p → x ≠ da → x ≠ de → H' x = some o) : Fr H H' [p, da, de] [p, da, de] :=
  ⟨fun x o e ne => f x o e (fun y => ne (by simp [y])) (fun y => ne (by simp [y])) (fun y => ne (by simp [y])), fun x h => .inl h⟩
theorem upd_id {H : Hp} {a : Addr} {o : HO} (h : H a = some o) : upd H a o = H := by
  funext b
  by_cases e : b = a
  · subst e; rw [upd_same, h]
  · rw [upd_ne e]
/-- what is over is forgotten -/
def sp_Holder_forget_over (t : Adr) : Sp := fun vs H Q _ => ∃ (p dx da de : Addr) (len mj nm life latest lo clock : Int) (cs : List Int), vs = [.ref p, .int clock] ∧ H p = some (.ins t.Holder dx (hf len mj nm life latest (lo + cs.length) da de)) ∧ H da = some (.dK (asksK lo cs)) ∧
  ∀ j : Nat, j ≤ cs.length → (∀ x ∈ cs.take j, x + len ≤ clock) → Q .non (upd H da (.dK (asksK (lo + j) (cs.drop j))))
section
variable {P : Program} {w : World} {K : PySem.W.Frag} {mg : Str → Option Value} {base : Heap} {t : Adr}
theorem ok_Holder_init (T : Txt K mg t) : FnOk P w K mg base CX0 2 t.f_Holder_init t.d_Holder_init ["self", "terms", "name", "life", "clock"] (sp_Holder_init t) := by
  refine T.F_Holder_init.ok sc_Holder_init (fun vs H Q E h => ?_) (fun cdv A outer s H vs Q E hr h => ?_)
  · obtain ⟨p, dx, tm, dt, lo, hi, le, ke, name, life, c, rfl, _⟩ := h
    rfl
  · obtain ⟨p, dx, tm, dt, lo, hi, le, ke, name, life, c, rfl, hp, ht, g, sc, q⟩ := h
    refine ⟨_, (jss_cons (js_fld nc_attr (je_var (i := 0) nm_self lo_Holder_init_self rfl) (je_fld bs_name (je_var (i := 1) nm_terms lo_Holder_init_terms rfl)))
      (jss_cons (js_fld nc_call (je_var (i := 0) nm_self lo_Holder_init_self rfl) (je_meth0 bs_name rfl (je_var (i := 1) nm_terms lo_Holder_init_terms rfl) T.cl_Terms T.h_Terms_most (ok_Terms_most T) (hr.mono (by decide)) T.b_Terms_most pass0))
      (jss_cons (js_fld nc_name (je_var (i := 0) nm_self lo_Holder_init_self rfl) (je_var (i := 2) nm_name lo_Holder_init_name rfl))
      (jss_cons (js_fld nc_name (je_var (i := 0) nm_self lo_Holder_init_self rfl) (je_var (i := 3) nm_life lo_Holder_init_life rfl))
      (jss_cons (js_fld nc_name (je_var (i := 0) nm_self lo_Holder_init_self rfl) (je_var (i := 4) nm_clock lo_Holder_init_clock rfl))
      (jss_cons (js_fld nc_const (je_var (i := 0) nm_self lo_Holder_init_self rfl) je_int)
      (jss_cons (js_fld nc_dict (je_var (i := 0) nm_self lo_Holder_init_self rfl) je_dnewK)
      (jss_one (js_fld nc_bin (je_var (i := 0) nm_self lo_Holder_init_self rfl) (je_op jo_rep (je_lst (ja_cons sx_name (je_var (i := 4) nm_clock lo_Holder_init_clock rfl) ja_nil)) (je_fld bs_name (je_var (i := 1) nm_terms lo_Holder_init_terms rfl)))))))))))).h, ?_⟩
    dsimp only [L2.start, List.map_cons, List.map_nil, List.length_cons, List.length_nil, List.cons_append, List.nil_append, List.replicate]
    have ntp : tm ≠ p := ne_of ht hp (by intro z; injection z with _ _ z; exact absurd (congrArg List.length z) (show ¬ (4 : Nat) = 0 by decide))
    have ht' : ∀ {o : HO}, upd H p o tm = some (.ins t.Terms dt (terms lo hi le ke)) := fun {o} => by rw [upd_ne ntp]; exact ht
    refine seq_step fun R k => ?_
    try simp only [Y0, Y1, Y2, Y3, Y4, Y5, Y6, Y7, Y8, Y9, Ya, Yb, Yc, Yd, Ye, Yf, Yg, Yh, Yi, Yj, Yk, Yl, Ym, Yn, Yo, Yp, Yq, Yr, Ys, Yt, Yu, Yv, Yw, Yx, Yy, Yz, Z0, Z1, Z2, Z3, Z4, Z5, Z6, Z7, Z8, Z9, Za, Zb, Zc, Zd, Ze, Zf, Zg, Zh, Zi, Zj, Zk, Zl, Zm, Zn, Zo, Zp, Zq, Zr, Zs, Zt, Zu, Zv, Zw, Zx, Zy, Zz, V0, V1, V2, V3, V4, V5, V6, V7, V8, V9, Va, Vb, Vc, Vd, Ve, Vf, exists_eq_left', exists_eq_left, Vi, Vj, Vk, Vl, Vm, exists_and_left, Vo, and_true, true_and, if_true, if_false, decide_eq_true_eq, Vu, Vv, Vw, Vx, decide_eq_false_iff_not, reduceCtorEq, not_true_eq_false, not_false_eq_true, decide_true, decide_false]
    refine rd_Terms_length T ht ?_
    refine rd_put hp T.cl_Holder T.nf_Holder_length (by decide : 0 < 1000) (k _ _ ?_)
    clear k R
    refine seq_step fun R k => ?_
    try simp only [Y0, Y1, Y2, Y3, Y4, Y5, Y6, Y7, Y8, Y9, Ya, Yb, Yc, Yd, Ye, Yf, Yg, Yh, Yi, Yj, Yk, Yl, Ym, Yn, Yo, Yp, Yq, Yr, Ys, Yt, Yu, Yv, Yw, Yx, Yy, Yz, Z0, Z1, Z2, Z3, Z4, Z5, Z6, Z7, Z8, Z9, Za, Zb, Zc, Zd, Ze, Zf, Zg, Zh, Zi, Zj, Zk, Zl, Zm, Zn, Zo, Zp, Zq, Zr, Zs, Zt, Zu, Zv, Zw, Zx, Zy, Zz, V0, V1, V2, V3, V4, V5, V6, V7, V8, V9, Va, Vb, Vc, Vd, Ve, Vf, exists_eq_left', exists_eq_left, Vi, Vj, Vk, Vl, Vm, exists_and_left, Vo, and_true, true_and, if_true, if_false, decide_eq_true_eq, Vu, Vv, Vw, Vx, decide_eq_false_iff_not, reduceCtorEq, not_true_eq_false, not_false_eq_true, decide_true, decide_false]
    refine me_Terms_most ht' ⟨tm, dt, lo, hi, le, ke, rfl, ht', g, ?_⟩
    refine rd_put upd_same T.cl_Holder T.nf_Holder_needed (by exact (by decide : 1 < 1000)) (k _ _ ?_)
    clear k R
    rw [upd_upd]
    refine seq_step fun R k => ?_
    try simp only [Y0, Y1, Y2, Y3, Y4, Y5, Y6, Y7, Y8, Y9, Ya, Yb, Yc, Yd, Ye, Yf, Yg, Yh, Yi, Yj, Yk, Yl, Ym, Yn, Yo, Yp, Yq, Yr, Ys, Yt, Yu, Yv, Yw, Yx, Yy, Yz, Z0, Z1, Z2, Z3, Z4, Z5, Z6, Z7, Z8, Z9, Za, Zb, Zc, Zd, Ze, Zf, Zg, Zh, Zi, Zj, Zk, Zl, Zm, Zn, Zo, Zp, Zq, Zr, Zs, Zt, Zu, Zv, Zw, Zx, Zy, Zz, V0, V1, V2, V3, V4, V5, V6, V7, V8, V9, Va, Vb, Vc, Vd, Ve, Vf, exists_eq_left', exists_eq_left, Vi, Vj, Vk, Vl, Vm, exists_and_left, Vo, and_true, true_and, if_true, if_false, decide_eq_true_eq, Vu, Vv, Vw, Vx, decide_eq_false_iff_not, reduceCtorEq, not_true_eq_false, not_false_eq_true, decide_true, decide_false]
    refine rd_put upd_same T.cl_Holder T.nf_Holder_name (by exact (by decide : 2 < 1000)) (k _ _ ?_)
    clear k R
    rw [upd_upd]
    refine seq_step fun R k => ?_
    try simp only [Y0, Y1, Y2, Y3, Y4, Y5, Y6, Y7, Y8, Y9, Ya, Yb, Yc, Yd, Ye, Yf, Yg, Yh, Yi, Yj, Yk, Yl, Ym, Yn, Yo, Yp, Yq, Yr, Ys, Yt, Yu, Yv, Yw, Yx, Yy, Yz, Z0, Z1, Z2, Z3, Z4, Z5, Z6, Z7, Z8, Z9, Za, Zb, Zc, Zd, Ze, Zf, Zg, Zh, Zi, Zj, Zk, Zl, Zm, Zn, Zo, Zp, Zq, Zr, Zs, Zt, Zu, Zv, Zw, Zx, Zy, Zz, V0, V1, V2, V3, V4, V5, V6, V7, V8, V9, Va, Vb, Vc, Vd, Ve, Vf, exists_eq_left', exists_eq_left, Vi, Vj, Vk, Vl, Vm, exists_and_left, Vo, and_true, true_and, if_true, if_false, decide_eq_true_eq, Vu, Vv, Vw, Vx, decide_eq_false_iff_not, reduceCtorEq, not_true_eq_false, not_false_eq_true, decide_true, decide_false]
    refine rd_put upd_same T.cl_Holder T.nf_Holder_life (by exact (by decide : 3 < 1000)) (k _ _ ?_)
    clear k R
    rw [upd_upd]
    refine seq_step fun R k => ?_
    try simp only [Y0, Y1, Y2, Y3, Y4, Y5, Y6, Y7, Y8, Y9, Ya, Yb, Yc, Yd, Ye, Yf, Yg, Yh, Yi, Yj, Yk, Yl, Ym, Yn, Yo, Yp, Yq, Yr, Ys, Yt, Yu, Yv, Yw, Yx, Yy, Yz, Z0, Z1, Z2, Z3, Z4, Z5, Z6, Z7, Z8, Z9, Za, Zb, Zc, Zd, Ze, Zf, Zg, Zh, Zi, Zj, Zk, Zl, Zm, Zn, Zo, Zp, Zq, Zr, Zs, Zt, Zu, Zv, Zw, Zx, Zy, Zz, V0, V1, V2, V3, V4, V5, V6, V7, V8, V9, Va, Vb, Vc, Vd, Ve, Vf, exists_eq_left', exists_eq_left, Vi, Vj, Vk, Vl, Vm, exists_and_left, Vo, and_true, true_and, if_true, if_false, decide_eq_true_eq, Vu, Vv, Vw, Vx, decide_eq_false_iff_not, reduceCtorEq, not_true_eq_false, not_false_eq_true, decide_true, decide_false]
    refine rd_put upd_same T.cl_Holder T.nf_Holder_latest (by exact (by decide : 4 < 1000)) (k _ _ ?_)
    clear k R
    rw [upd_upd]
    refine seq_step fun R k => ?_
    try simp only [Y0, Y1, Y2, Y3, Y4, Y5, Y6, Y7, Y8, Y9, Ya, Yb, Yc, Yd, Ye, Yf, Yg, Yh, Yi, Yj, Yk, Yl, Ym, Yn, Yo, Yp, Yq, Yr, Ys, Yt, Yu, Yv, Yw, Yx, Yy, Yz, Z0, Z1, Z2, Z3, Z4, Z5, Z6, Z7, Z8, Z9, Za, Zb, Zc, Zd, Ze, Zf, Zg, Zh, Zi, Zj, Zk, Zl, Zm, Zn, Zo, Zp, Zq, Zr, Zs, Zt, Zu, Zv, Zw, Zx, Zy, Zz, V0, V1, V2, V3, V4, V5, V6, V7, V8, V9, Va, Vb, Vc, Vd, Ve, Vf, exists_eq_left', exists_eq_left, Vi, Vj, Vk, Vl, Vm, exists_and_left, Vo, and_true, true_and, if_true, if_false, decide_eq_true_eq, Vu, Vv, Vw, Vx, decide_eq_false_iff_not, reduceCtorEq, not_true_eq_false, not_false_eq_true, decide_true, decide_false]
    refine rd_put upd_same T.cl_Holder T.nf_Holder_told (by exact (by decide : 5 < 1000)) (k _ _ ?_)
    clear k R
    rw [upd_upd]
    refine seq_step fun R k => ?_
    try simp only [Y0, Y1, Y2, Y3, Y4, Y5, Y6, Y7, Y8, Y9, Ya, Yb, Yc, Yd, Ye, Yf, Yg, Yh, Yi, Yj, Yk, Yl, Ym, Yn, Yo, Yp, Yq, Yr, Ys, Yt, Yu, Yv, Yw, Yx, Yy, Yz, Z0, Z1, Z2, Z3, Z4, Z5, Z6, Z7, Z8, Z9, Za, Zb, Zc, Zd, Ze, Zf, Zg, Zh, Zi, Zj, Zk, Zl, Zm, Zn, Zo, Zp, Zq, Zr, Zs, Zt, Zu, Zv, Zw, Zx, Zy, Zz, V0, V1, V2, V3, V4, V5, V6, V7, V8, V9, Va, Vb, Vc, Vd, Ve, Vf, exists_eq_left', exists_eq_left, Vi, Vj, Vk, Vl, Vm, exists_and_left, Vo, and_true, true_and, if_true, if_false, decide_eq_true_eq, Vu, Vv, Vw, Vx, decide_eq_false_iff_not, reduceCtorEq, not_true_eq_false, not_false_eq_true, decide_true, decide_false]
    intro da hda
    have npd : p ≠ da := ne_of_none upd_same hda
    have hda0 : H da = none := by rw [upd_ne npd.symm] at hda; exact hda
    refine rd_put (by rw [upd_ne npd]; exact upd_same) T.cl_Holder T.nf_Holder_asks (by exact (by decide : 6 < 1000)) (k _ _ ?_)
    clear k R
    generalize e1 : upd (upd (upd H p _) da (.dK [])) p (.ins t.Holder dx _) = H1
    have f1 : ∀ x o, H x = some o → x ≠ p → H1 x = some o := fun x o e ne => by rw [← e1, upd_ne ne, upd_ne (ne_of_none e hda0), upd_ne ne]; exact e
    have hp1 := (congrFun e1 p).symm.trans upd_same
    have hd1 : H1 da = some (.dK []) := by rw [← e1, upd_ne npd.symm]; exact upd_same
    clear e1
    clear hda ht'
    have ht1 := f1 _ _ ht ntp
    try simp only [Y0, Y1, Y2, Y3, Y4, Y5, Y6, Y7, Y8, Y9, Ya, Yb, Yc, Yd, Ye, Yf, Yg, Yh, Yi, Yj, Yk, Yl, Ym, Yn, Yo, Yp, Yq, Yr, Ys, Yt, Yu, Yv, Yw, Yx, Yy, Yz, Z0, Z1, Z2, Z3, Z4, Z5, Z6, Z7, Z8, Z9, Za, Zb, Zc, Zd, Ze, Zf, Zg, Zh, Zi, Zj, Zk, Zl, Zm, Zn, Zo, Zp, Zq, Zr, Zs, Zt, Zu, Zv, Zw, Zx, Zy, Zz, V0, V1, V2, V3, V4, V5, V6, V7, V8, V9, Va, Vb, Vc, Vd, Ve, Vf, exists_eq_left', exists_eq_left, Vi, Vj, Vk, Vl, Vm, exists_and_left, Vo, and_true, true_and, if_true, if_false, decide_eq_true_eq, Vu, Vv, Vw, Vx, decide_eq_false_iff_not, reduceCtorEq, not_true_eq_false, not_false_eq_true, decide_true, decide_false]
    refine ⟨by decide, fun p1 hp1' => ?_⟩
    have f2 : ∀ {o : HO} x o', H1 x = some o' → upd H1 p1 o x = some o' := fun x o' e => by rw [upd_ne (ne_of_none e hp1')]; exact e
    refine rd_Terms_keepers T (f2 _ _ ht1) ?_
    obtain ⟨g1, g2, g3, g4, g5, g6, g7⟩ := id g
    refine ⟨p1, ke, _, rfl, rfl, upd_same, by omega, by omega, ?_, fun de hde => ?_⟩
    · have := sizeLine_eq
      rw [List.length_singleton]
      omega
    rw [rep_flat]
    have f3 : ∀ {o o2 : HO} x o', H1 x = some o' → upd (upd H1 p1 o) de o2 x = some o' := fun {o o2} x o' e => by rw [upd_ne (ne_of_none (f2 (o := .lst [.int c]) x o' e) hde)]; exact f2 x o' e
    have hde1 : H1 de = none := by
      cases e : H1 de with
      | none => rfl
      | some o => rw [f2 _ _ e] at hde; cases hde
    have hde0 : de = p ∨ H de = none := by
      cases e : H de with
      | none => exact .inr rfl
      | some o =>
        by_cases y : de = p
        · exact .inl y
        · rw [f1 _ _ e y] at hde1; cases hde1
    have npe : p ≠ de := ne_of_none hp1 hde1
    have nde : da ≠ de := ne_of_none hd1 hde1
    refine rd_put (f3 _ _ hp1) T.cl_Holder T.nf_Holder_ends (by exact (by decide : 7 < 1000)) ?_
    refine q _ [p, da, de] (fun x o e ne => by rw [upd_ne ne]; exact f3 _ _ (f1 _ _ e ne)) (fun x hx => ?_) ?_
    · simp only [List.mem_cons, List.not_mem_nil, or_false] at hx
      rcases hx with rfl | rfl | rfl
      · exact .inl rfl
      · exact .inr hda0
      · exact hde0
    · refine ⟨dx, da, de, name, 0, [], List.replicate ke.toNat c, rfl, upd_same, by rw [upd_ne npd.symm]; exact f3 _ _ hd1, by rw [upd_ne npe.symm]; exact upd_same, rfl, by decide, (by show (0 : Int) ≤ 1000; decide), ⟨fun _ _ _ z => (by cases z), fun _ _ z => (by cases z)⟩, EndR.rep ⟨Int.le_refl _, Int.le_refl _⟩ _, ?_, Int.le_refl _, sc⟩
      rw [List.length_replicate]
      omega
theorem ok_Holder_forget_over (T : Txt K mg t) : FnOk P w K mg base CX0 1 t.f_Holder_forget_over t.d_Holder_forget_over ["self", "clock"] (sp_Holder_forget_over t) := by
  refine T.F_Holder_forget_over.ok sc_Holder_forget_over (fun vs H Q E h => ?_) (fun cdv A outer s H vs Q E hr h => ?_)
  · obtain ⟨p, dx, da, de, len, mj, nm, life, latest, lo, clock, cs, rfl, _⟩ := h
    rfl
  · obtain ⟨p, dx, da, de, len, mj, nm, life, latest, lo, clock, cs, rfl, hp, hda, q⟩ := h
    refine ⟨_, (jss_cons (js_set (i := 2) nc_bin sc_Holder_forget_over.nd rfl lo_Holder_forget_over_oldest (je_op jo_sub (je_fld bs_name (je_var (i := 0) nm_self lo_Holder_forget_over_self rfl)) (je_callB nm_len lo_Holder_forget_over_len jc_lenD T.z_len bt_len sx_attr ns_nil (ja_cons sx_attr (je_fld bs_name (je_var (i := 0) nm_self lo_Holder_forget_over_self rfl)) ja_nil))))
      (jss_one (js_while PassesOwn.never (jt_bool (jw_and (jt_cmp jo_lt (je_var (i := 2) nm_oldest lo_Holder_forget_over_oldest rfl) (je_fld bs_name (je_var (i := 0) nm_self lo_Holder_forget_over_self rfl)) (by decide) (by decide)) (jw_and1 (jt_cmp jo_le (je_op jo_add (je_dget (hu_of hr) (je_fld bs_name (je_var (i := 0) nm_self lo_Holder_forget_over_self rfl)) (je_var (i := 2) nm_oldest lo_Holder_forget_over_oldest rfl) (fun _ _ => rfl)) (je_fld bs_name (je_var (i := 0) nm_self lo_Holder_forget_over_self rfl))) (je_var (i := 1) nm_clock lo_Holder_forget_over_clock rfl) (by decide) (by decide))))) (jss_cons (js_expr nc_call (je_dpop bs_attr rfl sx_name (je_fld bs_name (je_var (i := 0) nm_self lo_Holder_forget_over_self rfl)) (je_var (i := 2) nm_oldest lo_Holder_forget_over_oldest rfl)))
      (jss_one (js_aug (i := 2) sc_Holder_forget_over.nd rfl lo_Holder_forget_over_oldest ip_add je_int)))))).h, ?_⟩
    dsimp only [L2.start, List.map_cons, List.map_nil, List.length_cons, List.length_nil, List.cons_append, List.nil_append, List.replicate]
    have npd : p ≠ da := ne_of hp hda (by intro z; cases z)
    refine seq_step fun R k => ?_
    try simp only [Y0, Y1, Y2, Y3, Y4, Y5, Y6, Y7, Y8, Y9, Ya, Yb, Yc, Yd, Ye, Yf, Yg, Yh, Yi, Yj, Yk, Yl, Ym, Yn, Yo, Yp, Yq, Yr, Ys, Yt, Yu, Yv, Yw, Yx, Yy, Yz, Z0, Z1, Z2, Z3, Z4, Z5, Z6, Z7, Z8, Z9, Za, Zb, Zc, Zd, Ze, Zf, Zg, Zh, Zi, Zj, Zk, Zl, Zm, Zn, Zo, Zp, Zq, Zr, Zs, Zt, Zu, Zv, Zw, Zx, Zy, Zz, V0, V1, V2, V3, V4, V5, V6, V7, V8, V9, Va, Vb, Vc, Vd, Ve, Vf, exists_eq_left', exists_eq_left, Vi, Vj, Vk, Vl, Vm, exists_and_left, Vo, and_true, true_and, if_true, if_false, decide_eq_true_eq, Vu, Vv, Vw, Vx, decide_eq_false_iff_not, reduceCtorEq, not_true_eq_false, not_false_eq_true, decide_true, decide_false]
    refine rd_Holder_told T hp ?_
    try simp only [Y0, Y1, Y2, Y3, Y4, Y5, Y6, Y7, Y8, Y9, Ya, Yb, Yc, Yd, Ye, Yf, Yg, Yh, Yi, Yj, Yk, Yl, Ym, Yn, Yo, Yp, Yq, Yr, Ys, Yt, Yu, Yv, Yw, Yx, Yy, Yz, Z0, Z1, Z2, Z3, Z4, Z5, Z6, Z7, Z8, Z9, Za, Zb, Zc, Zd, Ze, Zf, Zg, Zh, Zi, Zj, Zk, Zl, Zm, Zn, Zo, Zp, Zq, Zr, Zs, Zt, Zu, Zv, Zw, Zx, Zy, Zz, V0, V1, V2, V3, V4, V5, V6, V7, V8, V9, Va, Vb, Vc, Vd, Ve, Vf, exists_eq_left', exists_eq_left, Vi, Vj, Vk, Vl, Vm, exists_and_left, Vo, and_true, true_and, if_true, if_false, decide_eq_true_eq, Vu, Vv, Vw, Vx, decide_eq_false_iff_not, reduceCtorEq, not_true_eq_false, not_false_eq_true, decide_true, decide_false]
    refine rd_Holder_asks T hp (rd_lenD hda ?_)
    try simp only [Y0, Y1, Y2, Y3, Y4, Y5, Y6, Y7, Y8, Y9, Ya, Yb, Yc, Yd, Ye, Yf, Yg, Yh, Yi, Yj, Yk, Yl, Ym, Yn, Yo, Yp, Yq, Yr, Ys, Yt, Yu, Yv, Yw, Yx, Yy, Yz, Z0, Z1, Z2, Z3, Z4, Z5, Z6, Z7, Z8, Z9, Za, Zb, Zc, Zd, Ze, Zf, Zg, Zh, Zi, Zj, Zk, Zl, Zm, Zn, Zo, Zp, Zq, Zr, Zs, Zt, Zu, Zv, Zw, Zx, Zy, Zz, V0, V1, V2, V3, V4, V5, V6, V7, V8, V9, Va, Vb, Vc, Vd, Ve, Vf, exists_eq_left', exists_eq_left, Vi, Vj, Vk, Vl, Vm, exists_and_left, Vo, and_true, true_and, if_true, if_false, decide_eq_true_eq, Vu, Vv, Vw, Vx, decide_eq_false_iff_not, reduceCtorEq, not_true_eq_false, not_false_eq_true, decide_true, decide_false]
    rw [asksK_len, Int.add_sub_cancel]
    refine k _ _ ?_
    clear k R
    refine ⟨fun m σ H' => ∃ j : Nat, σ = [some (.ref p), some (.int clock), some (.int (lo + j))] ∧ j ≤ cs.length ∧ H' = upd H da (.dK (asksK (lo + j) (cs.drop j))) ∧ (∀ x ∈ cs.take j, x + len ≤ clock) ∧ m = cs.length - j, ⟨_, 0, ?_, Nat.zero_le _, ?_, ?_, rfl⟩, ?_⟩
    · rw [Int.natCast_zero, Int.add_zero]
    · rw [Int.natCast_zero, Int.add_zero, List.drop_zero, upd_id hda]
    · intro x hx
      cases hx
    rintro m σ H' ⟨j, rfl, hj, rfl, hx, rfl⟩
    have hp' : upd H da (.dK (asksK (lo + j) (cs.drop j))) p = some (.ins t.Holder dx (hf len mj nm life latest (lo + cs.length) da de)) := by rw [upd_ne npd]; exact hp
    try simp only [Y0, Y1, Y2, Y3, Y4, Y5, Y6, Y7, Y8, Y9, Ya, Yb, Yc, Yd, Ye, Yf, Yg, Yh, Yi, Yj, Yk, Yl, Ym, Yn, Yo, Yp, Yq, Yr, Ys, Yt, Yu, Yv, Yw, Yx, Yy, Yz, Z0, Z1, Z2, Z3, Z4, Z5, Z6, Z7, Z8, Z9, Za, Zb, Zc, Zd, Ze, Zf, Zg, Zh, Zi, Zj, Zk, Zl, Zm, Zn, Zo, Zp, Zq, Zr, Zs, Zt, Zu, Zv, Zw, Zx, Zy, Zz, V0, V1, V2, V3, V4, V5, V6, V7, V8, V9, Va, Vb, Vc, Vd, Ve, Vf, exists_eq_left', exists_eq_left, Vi, Vj, Vk, Vl, Vm, exists_and_left, Vo, and_true, true_and, if_true, if_false, decide_eq_true_eq, Vu, Vv, Vw, Vx, decide_eq_false_iff_not, reduceCtorEq, not_true_eq_false, not_false_eq_true, decide_true, decide_false]
    refine rd_Holder_told T hp' ?_
    try simp only [Y0, Y1, Y2, Y3, Y4, Y5, Y6, Y7, Y8, Y9, Ya, Yb, Yc, Yd, Ye, Yf, Yg, Yh, Yi, Yj, Yk, Yl, Ym, Yn, Yo, Yp, Yq, Yr, Ys, Yt, Yu, Yv, Yw, Yx, Yy, Yz, Z0, Z1, Z2, Z3, Z4, Z5, Z6, Z7, Z8, Z9, Za, Zb, Zc, Zd, Ze, Zf, Zg, Zh, Zi, Zj, Zk, Zl, Zm, Zn, Zo, Zp, Zq, Zr, Zs, Zt, Zu, Zv, Zw, Zx, Zy, Zz, V0, V1, V2, V3, V4, V5, V6, V7, V8, V9, Va, Vb, Vc, Vd, Ve, Vf, exists_eq_left', exists_eq_left, Vi, Vj, Vk, Vl, Vm, exists_and_left, Vo, and_true, true_and, if_true, if_false, decide_eq_true_eq, Vu, Vv, Vw, Vx, decide_eq_false_iff_not, reduceCtorEq, not_true_eq_false, not_false_eq_true, decide_true, decide_false]
    split
    · rename_i h1
      have hjl : j < cs.length := by omega
      have ed : cs.drop j = cs[j] :: cs.drop (j + 1) := List.drop_eq_getElem_cons hjl
      have hv : valV (asksK (lo + j) (cs.drop j)) (Sum.inl (lo + j)) = some (.int cs[j]) := by rw [ed]; exact asksK_first
      refine rd_Holder_asks T hp' (rd_dgetI upd_same hv ?_)
      try simp only [Y0, Y1, Y2, Y3, Y4, Y5, Y6, Y7, Y8, Y9, Ya, Yb, Yc, Yd, Ye, Yf, Yg, Yh, Yi, Yj, Yk, Yl, Ym, Yn, Yo, Yp, Yq, Yr, Ys, Yt, Yu, Yv, Yw, Yx, Yy, Yz, Z0, Z1, Z2, Z3, Z4, Z5, Z6, Z7, Z8, Z9, Za, Zb, Zc, Zd, Ze, Zf, Zg, Zh, Zi, Zj, Zk, Zl, Zm, Zn, Zo, Zp, Zq, Zr, Zs, Zt, Zu, Zv, Zw, Zx, Zy, Zz, V0, V1, V2, V3, V4, V5, V6, V7, V8, V9, Va, Vb, Vc, Vd, Ve, Vf, exists_eq_left', exists_eq_left, Vi, Vj, Vk, Vl, Vm, exists_and_left, Vo, and_true, true_and, if_true, if_false, decide_eq_true_eq, Vu, Vv, Vw, Vx, decide_eq_false_iff_not, reduceCtorEq, not_true_eq_false, not_false_eq_true, decide_true, decide_false]
      refine rd_Holder_length T hp' ?_
      try simp only [Y0, Y1, Y2, Y3, Y4, Y5, Y6, Y7, Y8, Y9, Ya, Yb, Yc, Yd, Ye, Yf, Yg, Yh, Yi, Yj, Yk, Yl, Ym, Yn, Yo, Yp, Yq, Yr, Ys, Yt, Yu, Yv, Yw, Yx, Yy, Yz, Z0, Z1, Z2, Z3, Z4, Z5, Z6, Z7, Z8, Z9, Za, Zb, Zc, Zd, Ze, Zf, Zg, Zh, Zi, Zj, Zk, Zl, Zm, Zn, Zo, Zp, Zq, Zr, Zs, Zt, Zu, Zv, Zw, Zx, Zy, Zz, V0, V1, V2, V3, V4, V5, V6, V7, V8, V9, Va, Vb, Vc, Vd, Ve, Vf, exists_eq_left', exists_eq_left, Vi, Vj, Vk, Vl, Vm, exists_and_left, Vo, and_true, true_and, if_true, if_false, decide_eq_true_eq, Vu, Vv, Vw, Vx, decide_eq_false_iff_not, reduceCtorEq, not_true_eq_false, not_false_eq_true, decide_true, decide_false]
      split
      · rename_i h2
        refine ⟨fun σ' H'' => σ' = [some (.ref p), some (.int clock), some (.int (lo + j + 1))] ∧ H'' = upd H da (.dK (asksK (lo + j + 1) (cs.drop (j + 1)))), ?_, ?_⟩
        · rintro σ' H'' ⟨rfl, rfl⟩
          refine ⟨_, ?_, j + 1, ?_, hjl, ?_, ?_, rfl⟩
          · omega
          · rw [show lo + ((j + 1 : Nat) : Int) = lo + j + 1 by omega]
          · rw [show lo + ((j + 1 : Nat) : Int) = lo + j + 1 by omega]
          · intro x hx'
            rw [List.take_add_one, List.getElem?_eq_getElem hjl] at hx'
            rcases List.mem_append.mp hx' with z | z
            · exact hx x z
            · cases List.mem_singleton.mp z
              exact h2
        · refine seq_step fun R2 k2 => ?_
          try simp only [Y0, Y1, Y2, Y3, Y4, Y5, Y6, Y7, Y8, Y9, Ya, Yb, Yc, Yd, Ye, Yf, Yg, Yh, Yi, Yj, Yk, Yl, Ym, Yn, Yo, Yp, Yq, Yr, Ys, Yt, Yu, Yv, Yw, Yx, Yy, Yz, Z0, Z1, Z2, Z3, Z4, Z5, Z6, Z7, Z8, Z9, Za, Zb, Zc, Zd, Ze, Zf, Zg, Zh, Zi, Zj, Zk, Zl, Zm, Zn, Zo, Zp, Zq, Zr, Zs, Zt, Zu, Zv, Zw, Zx, Zy, Zz, V0, V1, V2, V3, V4, V5, V6, V7, V8, V9, Va, Vb, Vc, Vd, Ve, Vf, exists_eq_left', exists_eq_left, Vi, Vj, Vk, Vl, Vm, exists_and_left, Vo, and_true, true_and, if_true, if_false, decide_eq_true_eq, Vu, Vv, Vw, Vx, decide_eq_false_iff_not, reduceCtorEq, not_true_eq_false, not_false_eq_true, decide_true, decide_false]
          refine rd_Holder_asks T hp' ⟨da, rfl, .inl ⟨_, .inl upd_same⟩, ?_⟩
          try simp only [Y0, Y1, Y2, Y3, Y4, Y5, Y6, Y7, Y8, Y9, Ya, Yb, Yc, Yd, Ye, Yf, Yg, Yh, Yi, Yj, Yk, Yl, Ym, Yn, Yo, Yp, Yq, Yr, Ys, Yt, Yu, Yv, Yw, Yx, Yy, Yz, Z0, Z1, Z2, Z3, Z4, Z5, Z6, Z7, Z8, Z9, Za, Zb, Zc, Zd, Ze, Zf, Zg, Zh, Zi, Zj, Zk, Zl, Zm, Zn, Zo, Zp, Zq, Zr, Zs, Zt, Zu, Zv, Zw, Zx, Zy, Zz, V0, V1, V2, V3, V4, V5, V6, V7, V8, V9, Va, Vb, Vc, Vd, Ve, Vf, exists_eq_left', exists_eq_left, Vi, Vj, Vk, Vl, Vm, exists_and_left, Vo, and_true, true_and, if_true, if_false, decide_eq_true_eq, Vu, Vv, Vw, Vx, decide_eq_false_iff_not, reduceCtorEq, not_true_eq_false, not_false_eq_true, decide_true, decide_false]
          refine ⟨_, upd_same, Sum.inl (lo + j), rfl, .int cs[j], hv, ?_⟩
          rw [upd_upd, ed, asksK_drop]
          refine k2 _ _ ?_
          try simp only [Y0, Y1, Y2, Y3, Y4, Y5, Y6, Y7, Y8, Y9, Ya, Yb, Yc, Yd, Ye, Yf, Yg, Yh, Yi, Yj, Yk, Yl, Ym, Yn, Yo, Yp, Yq, Yr, Ys, Yt, Yu, Yv, Yw, Yx, Yy, Yz, Z0, Z1, Z2, Z3, Z4, Z5, Z6, Z7, Z8, Z9, Za, Zb, Zc, Zd, Ze, Zf, Zg, Zh, Zi, Zj, Zk, Zl, Zm, Zn, Zo, Zp, Zq, Zr, Zs, Zt, Zu, Zv, Zw, Zx, Zy, Zz, V0, V1, V2, V3, V4, V5, V6, V7, V8, V9, Va, Vb, Vc, Vd, Ve, Vf, exists_eq_left', exists_eq_left, Vi, Vj, Vk, Vl, Vm, exists_and_left, Vo, and_true, true_and, if_true, if_false, decide_eq_true_eq, Vu, Vv, Vw, Vx, decide_eq_false_iff_not, reduceCtorEq, not_true_eq_false, not_false_eq_true, decide_true, decide_false]
      · exact q j hj hx
    · exact q j hj hx
theorem ok_Holder_ask (T : Txt K mg t) : FnOk P w K mg base (CXF P w) 2 t.f_Holder_ask t.d_Holder_ask ["self", "clock"] (sp_Holder_ask t) := by
  refine T.F_Holder_ask.okX sc_Holder_ask (fun vs H Q E h => ?_) (fun cdv A outer s H vs Q E hr h => ?_)
  · obtain ⟨p, S, n, len, h, clock, keeper, q, a, b, rfl, _⟩ := h
    rfl
  · obtain ⟨p, S, n, len, ⟨c, f, l, m, asks, ends⟩, clock, keeper, q, a, b, rfl, ⟨dx, da, de, nm, lo, cs, es, rfl, hp, hda, hde, hlo, hlo0, hm1, ha, he, hen, hf0, sc⟩, n1, n5, hm, sm, sk, sl, hq, z⟩ := h
    dsimp only at hp hda hde hlo hm1 ha he hf0 sc hm
    subst hlo
    have npd : p ≠ da := ne_of hp hda (by intro z; cases z)
    have npe : p ≠ de := ne_of hp hde (by intro z; cases z)
    have nde : da ≠ de := ne_of hda hde (by intro z; cases z)
    have qe : clock < c → E (.ref t.Back) none H := fun h1 => by
      have z := z H [p, da, de] (fr3 fun x o e _ _ _ => e)
      rw [hdue_back (by rintro ⟨y, _⟩; exact absurd y (by decide)) h1] at z
      rw [← cls_back]
      exact z ⟨dx, da, de, nm, lo, cs, es, rfl, hp, hda, hde, rfl, hlo0, hm1, ha, he, hen, hf0, sc⟩
    refine ⟨_, (jssx_cons (jsx_fld nc_call (je_var (i := 0) nm_self lo_Holder_ask_self rfl) (jex_call nm_gone_on lo_Holder_ask_gone_on (ok_gone_on T) (hr.mono (by decide)) T.m_gone_on T.F_gone_on.kp T.b_gone_on sx_attr (ns_cons sx_name ns_nil) (ja_cons sx_attr (je_fld bs_name (je_var (i := 0) nm_self lo_Holder_ask_self rfl)) (ja_cons sx_name (je_var (i := 1) nm_clock lo_Holder_ask_clock rfl) ja_nil))))
      (jssx_cons (jx (js_expr nc_call (je_meth bs_name rfl (by decide) (je_var (i := 0) nm_self lo_Holder_ask_self rfl) T.cl_Holder T.h_Holder_forget_over (ok_Holder_forget_over T) (hr.mono (by decide)) T.b_Holder_forget_over pass0 sx_name ns_nil (ja_cons sx_name (je_var (i := 1) nm_clock lo_Holder_ask_clock rfl) ja_nil))))
      (jssx_cons (jx (js_set (i := 2) nc_tuple sc_Holder_ask.nd rfl lo_Holder_ask_number (je_tup (ja_cons sx_attr (je_fld bs_name (je_var (i := 0) nm_self lo_Holder_ask_self rfl)) (ja_cons sx_attr (je_fld bs_name (je_var (i := 0) nm_self lo_Holder_ask_self rfl)) ja_nil)))))
      (jssx_cons (jx (js_dput nc_name (hu_of hr) (je_fld bs_name (je_var (i := 0) nm_self lo_Holder_ask_self rfl)) (je_fld bs_name (je_var (i := 0) nm_self lo_Holder_ask_self rfl)) (je_var (i := 1) nm_clock lo_Holder_ask_clock rfl)))
      (jssx_cons (jx (js_fldaug in_add (je_var (i := 0) nm_self lo_Holder_ask_self rfl) je_int))
      (jssx_one (jx (js_ret (je_var (i := 2) nm_number lo_Holder_ask_number rfl))))))))).h, ?_⟩
    dsimp only [L2.start, List.map_cons, List.map_nil, List.length_cons, List.length_nil, List.cons_append, List.nil_append, List.replicate]
    refine xseq_step fun R k => ?_
    try simp only [Y0, Y1, Y2, Y3, Y4, Y5, Y6, Y7, Y8, Y9, Ya, Yb, Yc, Yd, Ye, Yf, Yg, Yh, Yi, Yj, Yk, Yl, Ym, Yn, Yo, Yp, Yq, Yr, Ys, Yt, Yu, Yv, Yw, Yx, Yy, Yz, Z0, Z1, Z2, Z3, Z4, Z5, Z6, Z7, Z8, Z9, Za, Zb, Zc, Zd, Ze, Zf, Zg, Zh, Zi, Zj, Zk, Zl, Zm, Zn, Zo, Zp, Zq, Zr, Zs, Zt, Zu, Zv, Zw, Zx, Zy, Zz, V0, V1, V2, V3, V4, V5, V6, V7, V8, V9, Va, Vb, Vc, Vd, Ve, Vf, exists_eq_left', exists_eq_left, Vi, Vj, Vk, Vl, Vm, exists_and_left, Vo, and_true, true_and, if_true, if_false, decide_eq_true_eq, Vu, Vv, Vw, Vx, decide_eq_false_iff_not, reduceCtorEq, not_true_eq_false, not_false_eq_true, decide_true, decide_false]
    refine rd_Holder_latest T hp ?_
    try simp only [Y0, Y1, Y2, Y3, Y4, Y5, Y6, Y7, Y8, Y9, Ya, Yb, Yc, Yd, Ye, Yf, Yg, Yh, Yi, Yj, Yk, Yl, Ym, Yn, Yo, Yp, Yq, Yr, Ys, Yt, Yu, Yv, Yw, Yx, Yy, Yz, Z0, Z1, Z2, Z3, Z4, Z5, Z6, Z7, Z8, Z9, Za, Zb, Zc, Zd, Ze, Zf, Zg, Zh, Zi, Zj, Zk, Zl, Zm, Zn, Zo, Zp, Zq, Zr, Zs, Zt, Zu, Zv, Zw, Zx, Zy, Zz, V0, V1, V2, V3, V4, V5, V6, V7, V8, V9, Va, Vb, Vc, Vd, Ve, Vf, exists_eq_left', exists_eq_left, Vi, Vj, Vk, Vl, Vm, exists_and_left, Vo, and_true, true_and, if_true, if_false, decide_eq_true_eq, Vu, Vv, Vw, Vx, decide_eq_false_iff_not, reduceCtorEq, not_true_eq_false, not_false_eq_true, decide_true, decide_false]
    refine ⟨c, clock, rfl, sc, sm, qe, fun h1 => ?_⟩
    try simp only [Y0, Y1, Y2, Y3, Y4, Y5, Y6, Y7, Y8, Y9, Ya, Yb, Yc, Yd, Ye, Yf, Yg, Yh, Yi, Yj, Yk, Yl, Ym, Yn, Yo, Yp, Yq, Yr, Ys, Yt, Yu, Yv, Yw, Yx, Yy, Yz, Z0, Z1, Z2, Z3, Z4, Z5, Z6, Z7, Z8, Z9, Za, Zb, Zc, Zd, Ze, Zf, Zg, Zh, Zi, Zj, Zk, Zl, Zm, Zn, Zo, Zp, Zq, Zr, Zs, Zt, Zu, Zv, Zw, Zx, Zy, Zz, V0, V1, V2, V3, V4, V5, V6, V7, V8, V9, Va, Vb, Vc, Vd, Ve, Vf, exists_eq_left', exists_eq_left, Vi, Vj, Vk, Vl, Vm, exists_and_left, Vo, and_true, true_and, if_true, if_false, decide_eq_true_eq, Vu, Vv, Vw, Vx, decide_eq_false_iff_not, reduceCtorEq, not_true_eq_false, not_false_eq_true, decide_true, decide_false]
    refine st_Holder_latest T hp (k _ _ ?_)
    clear k R
    rw [hdue_ask h1] at z
    dsimp only at h1 z
    have f1 : ∀ x o, H x = some o → x ≠ p → upd H p (.ins t.Holder dx (hf len (n / 2 + 1) nm l clock (lo + cs.length) da de)) x = some o := fun x o e ne => by rw [upd_ne ne]; exact e
    have hp1 : upd H p (.ins t.Holder dx (hf len (n / 2 + 1) nm l clock (lo + cs.length) da de)) p = some (.ins t.Holder dx (hf len (n / 2 + 1) nm l clock (lo + cs.length) da de)) := upd_same
    have hda1 := f1 _ _ hda npd.symm
    have hde1 := f1 _ _ hde npe.symm
    generalize upd H p (.ins t.Holder dx (hf len (n / 2 + 1) nm l clock (lo + cs.length) da de)) = H1 at f1 hp1 hda1 hde1 ⊢
    refine xseq_step fun R k => ?_
    try simp only [Y0, Y1, Y2, Y3, Y4, Y5, Y6, Y7, Y8, Y9, Ya, Yb, Yc, Yd, Ye, Yf, Yg, Yh, Yi, Yj, Yk, Yl, Ym, Yn, Yo, Yp, Yq, Yr, Ys, Yt, Yu, Yv, Yw, Yx, Yy, Yz, Z0, Z1, Z2, Z3, Z4, Z5, Z6, Z7, Z8, Z9, Za, Zb, Zc, Zd, Ze, Zf, Zg, Zh, Zi, Zj, Zk, Zl, Zm, Zn, Zo, Zp, Zq, Zr, Zs, Zt, Zu, Zv, Zw, Zx, Zy, Zz, V0, V1, V2, V3, V4, V5, V6, V7, V8, V9, Va, Vb, Vc, Vd, Ve, Vf, exists_eq_left', exists_eq_left, Vi, Vj, Vk, Vl, Vm, exists_and_left, Vo, and_true, true_and, if_true, if_false, decide_eq_true_eq, Vu, Vv, Vw, Vx, decide_eq_false_iff_not, reduceCtorEq, not_true_eq_false, not_false_eq_true, decide_true, decide_false]
    refine me_Holder_forget_over hp1 ⟨p, dx, da, de, len, n / 2 + 1, nm, l, clock, lo, clock, cs, rfl, hp1, hda1, fun j hj hx => k _ _ ?_⟩
    clear k R
    have f2 : ∀ x o, H1 x = some o → x ≠ da → upd H1 da (.dK (asksK (lo + j) (cs.drop j))) x = some o := fun x o e ne => by rw [upd_ne ne]; exact e
    have hp2 := f2 _ _ hp1 npd
    have hde2 := f2 _ _ hde1 nde.symm
    have hda2 : upd H1 da (.dK (asksK (lo + j) (cs.drop j))) da = some (.dK (asksK (lo + j) (cs.drop j))) := upd_same
    generalize upd H1 da (.dK (asksK (lo + j) (cs.drop j))) = H2 at f2 hp2 hde2 hda2 ⊢
    refine xseq_step fun R k => ?_
    try simp only [Y0, Y1, Y2, Y3, Y4, Y5, Y6, Y7, Y8, Y9, Ya, Yb, Yc, Yd, Ye, Yf, Yg, Yh, Yi, Yj, Yk, Yl, Ym, Yn, Yo, Yp, Yq, Yr, Ys, Yt, Yu, Yv, Yw, Yx, Yy, Yz, Z0, Z1, Z2, Z3, Z4, Z5, Z6, Z7, Z8, Z9, Za, Zb, Zc, Zd, Ze, Zf, Zg, Zh, Zi, Zj, Zk, Zl, Zm, Zn, Zo, Zp, Zq, Zr, Zs, Zt, Zu, Zv, Zw, Zx, Zy, Zz, V0, V1, V2, V3, V4, V5, V6, V7, V8, V9, Va, Vb, Vc, Vd, Ve, Vf, exists_eq_left', exists_eq_left, Vi, Vj, Vk, Vl, Vm, exists_and_left, Vo, and_true, true_and, if_true, if_false, decide_eq_true_eq, Vu, Vv, Vw, Vx, decide_eq_false_iff_not, reduceCtorEq, not_true_eq_false, not_false_eq_true, decide_true, decide_false]
    refine rd_Holder_life T hp2 (rd_Holder_told T hp2 ⟨by decide, fun pr hpr => k _ _ ?_⟩)
    clear k R
    have f3 : ∀ x o, H2 x = some o → upd H2 pr (.tup [.int l, .int (lo + cs.length)]) x = some o := fun x o e => by rw [upd_ne (ne_of_none e hpr)]; exact e
    have hp3 := f3 _ _ hp2
    have hde3 := f3 _ _ hde2
    have hda3 := f3 _ _ hda2
    have hpr3 : upd H2 pr (.tup [.int l, .int (lo + cs.length)]) pr = some (.tup [.int l, .int (lo + cs.length)]) := upd_same
    generalize upd H2 pr (.tup [.int l, .int (lo + cs.length)]) = H3 at f3 hp3 hde3 hda3 hpr3 ⊢
    have dl : (cs.drop j).length = cs.length - j := List.length_drop
    refine xseq_step fun R k => ?_
    try simp only [Y0, Y1, Y2, Y3, Y4, Y5, Y6, Y7, Y8, Y9, Ya, Yb, Yc, Yd, Ye, Yf, Yg, Yh, Yi, Yj, Yk, Yl, Ym, Yn, Yo, Yp, Yq, Yr, Ys, Yt, Yu, Yv, Yw, Yx, Yy, Yz, Z0, Z1, Z2, Z3, Z4, Z5, Z6, Z7, Z8, Z9, Za, Zb, Zc, Zd, Ze, Zf, Zg, Zh, Zi, Zj, Zk, Zl, Zm, Zn, Zo, Zp, Zq, Zr, Zs, Zt, Zu, Zv, Zw, Zx, Zy, Zz, V0, V1, V2, V3, V4, V5, V6, V7, V8, V9, Va, Vb, Vc, Vd, Ve, Vf, exists_eq_left', exists_eq_left, Vi, Vj, Vk, Vl, Vm, exists_and_left, Vo, and_true, true_and, if_true, if_false, decide_eq_true_eq, Vu, Vv, Vw, Vx, decide_eq_false_iff_not, reduceCtorEq, not_true_eq_false, not_false_eq_true, decide_true, decide_false]
    refine rd_Holder_asks T hp3 (rd_Holder_told T hp3 (rd_dputI hda3 ?_ (k _ _ ?_)))
    · rw [asksK_len, dl]
      exact small1000 (by omega)
    clear k R
    rw [asksK_put (by omega)]
    have f4 : ∀ x o, H3 x = some o → x ≠ da → upd H3 da (.dK (asksK (lo + j) (cs.drop j ++ [clock]))) x = some o := fun x o e ne => by rw [upd_ne ne]; exact e
    have hp4 := f4 _ _ hp3 npd
    have hde4 := f4 _ _ hde3 nde.symm
    have hpr4 := f4 _ _ hpr3 (ne_of hpr3 hda3 (by intro z; cases z))
    have hda4 : upd H3 da (.dK (asksK (lo + j) (cs.drop j ++ [clock]))) da = some (.dK (asksK (lo + j) (cs.drop j ++ [clock]))) := upd_same
    generalize upd H3 da (.dK (asksK (lo + j) (cs.drop j ++ [clock]))) = H4 at f4 hp4 hde4 hpr4 hda4 ⊢
    refine xseq_step fun R k => ?_
    try simp only [Y0, Y1, Y2, Y3, Y4, Y5, Y6, Y7, Y8, Y9, Ya, Yb, Yc, Yd, Ye, Yf, Yg, Yh, Yi, Yj, Yk, Yl, Ym, Yn, Yo, Yp, Yq, Yr, Ys, Yt, Yu, Yv, Yw, Yx, Yy, Yz, Z0, Z1, Z2, Z3, Z4, Z5, Z6, Z7, Z8, Z9, Za, Zb, Zc, Zd, Ze, Zf, Zg, Zh, Zi, Zj, Zk, Zl, Zm, Zn, Zo, Zp, Zq, Zr, Zs, Zt, Zu, Zv, Zw, Zx, Zy, Zz, V0, V1, V2, V3, V4, V5, V6, V7, V8, V9, Va, Vb, Vc, Vd, Ve, Vf, exists_eq_left', exists_eq_left, Vi, Vj, Vk, Vl, Vm, exists_and_left, Vo, and_true, true_and, if_true, if_false, decide_eq_true_eq, Vu, Vv, Vw, Vx, decide_eq_false_iff_not, reduceCtorEq, not_true_eq_false, not_false_eq_true, decide_true, decide_false]
    refine rd_faug hp4 T.cl_Holder T.nf_Holder_told get_Holder_told (by exact (by decide : 8 < 1000)) ?_
    rw [put_Holder_told]
    refine k _ _ ?_
    clear k R
    have npr : pr ≠ p := ne_of hpr4 hp4 (by intro z; cases z)
    try simp only [Y0, Y1, Y2, Y3, Y4, Y5, Y6, Y7, Y8, Y9, Ya, Yb, Yc, Yd, Ye, Yf, Yg, Yh, Yi, Yj, Yk, Yl, Ym, Yn, Yo, Yp, Yq, Yr, Ys, Yt, Yu, Yv, Yw, Yx, Yy, Yz, Z0, Z1, Z2, Z3, Z4, Z5, Z6, Z7, Z8, Z9, Za, Zb, Zc, Zd, Ze, Zf, Zg, Zh, Zi, Zj, Zk, Zl, Zm, Zn, Zo, Zp, Zq, Zr, Zs, Zt, Zu, Zv, Zw, Zx, Zy, Zz, V0, V1, V2, V3, V4, V5, V6, V7, V8, V9, Va, Vb, Vc, Vd, Ve, Vf, exists_eq_left', exists_eq_left, Vi, Vj, Vk, Vl, Vm, exists_and_left, Vo, and_true, true_and, if_true, if_false, decide_eq_true_eq, Vu, Vv, Vw, Vx, decide_eq_false_iff_not, reduceCtorEq, not_true_eq_false, not_false_eq_true, decide_true, decide_false]
    refine z _ [p, da, de] (fr3 fun x o e e1 e2 e3 => by rw [upd_ne e1]; exact f4 _ _ (f3 _ _ (f2 _ _ (f1 _ _ e e1) e2)) e2) ⟨dx, da, de, nm, lo + j, cs.drop j ++ [clock], es, rfl, upd_same, by rw [upd_ne npd.symm]; exact hda4, by rw [upd_ne npe.symm]; exact hde4, ?_, by omega, by dsimp only; omega, ⟨fun a' b' x e => ?_, fun b' x e => ?_⟩, EndR.mono (by dsimp only; omega) he, hen, by dsimp only; omega, sm⟩ pr (by rw [upd_ne npr]; exact hpr4)
    · dsimp only
      rw [List.length_append, dl, List.length_singleton]
      omega
    · dsimp only at e ⊢
      rw [← asksK_put (b := lo + cs.length) (by omega), valV_put]
      by_cases y : a' = l ∧ b' = lo + cs.length
      · rw [if_pos y] at e
        cases e
        exact ⟨y.1, .inr (by rw [if_pos (by rw [y.2])])⟩
      · rw [if_neg y] at e
        obtain ⟨e1, e2⟩ := ha.1 a' b' x e
        refine ⟨e1, ?_⟩
        rcases e2 with e2 | e2
        · exact .inl (by dsimp only at e2; omega)
        · rcases asksK_forget j hj e2 with e3 | e3
          · exact .inl (hx x e3)
          · exact .inr (by rw [if_neg fun z => y ⟨e1, (Sum.inl.inj z)⟩]; exact e3)
    · dsimp only at e ⊢
      rw [← asksK_put (b := lo + cs.length) (by omega), valV_put] at e
      by_cases y : b' = lo + cs.length
      · rw [if_pos (by rw [y])] at e
        cases e
        rw [if_pos ⟨rfl, y⟩]
      · rw [if_neg fun z => y (Sum.inl.inj z)] at e
        rw [if_neg fun z => y z.2]
        exact ha.2 b' x (asksK_kept j hj e)
theorem ok_Holder_hear (T : Txt K mg t) : FnOk P w K mg base (CXF P w) 2 t.f_Holder_hear t.d_Holder_hear ["self", "clock", "keeper", "number"] (sp_Holder_hear t) := by
  refine T.F_Holder_hear.okX sc_Holder_hear (fun vs H Q E h => ?_) (fun cdv A outer s H vs Q E hr h => ?_)
  · obtain ⟨p, S, n, len, h, clock, keeper, q, a, b, rfl, _⟩ := h
    rfl
  · obtain ⟨p, S, n, len, ⟨c, f, l, m, asks, ends⟩, clock, keeper, q, a, b, rfl, ⟨dx, da, de, nm, lo, cs, es, rfl, hp, hda, hde, hlo, hlo0, hm1, ha, he, hen, hf0, sc⟩, n1, n5, hm, sm, sk, sl, hq, z⟩ := h
    dsimp only at hp hda hde hlo hm1 ha he hf0 sc hm
    subst hlo
    have npd : p ≠ da := ne_of hp hda (by intro z; cases z)
    have npe : p ≠ de := ne_of hp hde (by intro z; cases z)
    have nde : da ≠ de := ne_of hda hde (by intro z; cases z)
    have hq := hq rfl
    have no : ¬ (0 ≤ keeper ∧ keeper < n) → E (.ref t.NoKeeper) none H := fun h0 => by
      have z := z H [p, da, de] (fr3 fun x o e _ _ _ => e)
      rw [hdue_no h0] at z
      rw [← cls_keeper]
      exact z ⟨dx, da, de, nm, lo, cs, es, rfl, hp, hda, hde, rfl, hlo0, hm1, ha, he, hen, hf0, sc⟩
    refine ⟨_, (jssx_cons (jsx_if (jt_bool (jw_or (jt_cmp jo_lt (je_var (i := 2) nm_keeper lo_Holder_hear_keeper rfl) je_int (by decide) (by decide)) (jw_or1 (jt_cmp jo_ge (je_var (i := 2) nm_keeper lo_Holder_hear_keeper rfl) (je_callB nm_len lo_Holder_hear_len jc_len T.z_len bt_len sx_attr ns_nil (ja_cons sx_attr (je_fld bs_name (je_var (i := 0) nm_self lo_Holder_hear_self rfl)) ja_nil)) (by decide) (by decide))))) (jssx_one (jsx_raise nm_NoKeeper rfl lo_Holder_hear_NoKeeper T.m_NoKeeper T.n_NoKeeper T.x_NoKeeper PySem.F.excBase_ValueError sx_join ns_nil (ja_cons sx_join (je_fstr (jfs_cons (jf_str (by decide)) (jfs_cons (jf_int (je_var (i := 2) nm_keeper lo_Holder_hear_keeper rfl)) jfs_nil rfl) rfl) (by decide)) ja_nil))) jssx_nil)
      (jssx_cons (jsx_fld nc_call (je_var (i := 0) nm_self lo_Holder_hear_self rfl) (jex_call nm_gone_on lo_Holder_hear_gone_on (ok_gone_on T) (hr.mono (by decide)) T.m_gone_on T.F_gone_on.kp T.b_gone_on sx_attr (ns_cons sx_name ns_nil) (ja_cons sx_attr (je_fld bs_name (je_var (i := 0) nm_self lo_Holder_hear_self rfl)) (ja_cons sx_name (je_var (i := 1) nm_clock lo_Holder_hear_clock rfl) ja_nil))))
      (jssx_one (jx (js_if (jt_bool (jw_and (jt_cmp jo_eq (je_ix jx_tup (je_var (i := 3) nm_number lo_Holder_hear_number rfl) je_int (fun _ _ => rfl)) (je_fld bs_name (je_var (i := 0) nm_self lo_Holder_hear_self rfl)) (by decide) (by decide)) (jw_and1 (jt_din (hu_of hr) (je_ix jx_tup (je_var (i := 3) nm_number lo_Holder_hear_number rfl) je_int (fun _ _ => rfl)) (je_fld bs_name (je_var (i := 0) nm_self lo_Holder_hear_self rfl)) rfl)))) (jss_one (js_asg nc_call (je_callB nm_max lo_Holder_hear_max (jc_max rfl) T.z_max bt_max sx_sub (ns_cons sx_bin ns_nil) (ja_cons sx_sub (je_ix jx_list (je_fld bs_name (je_var (i := 0) nm_self lo_Holder_hear_self rfl)) (je_var (i := 2) nm_keeper lo_Holder_hear_keeper rfl) (fun _ _ => rfl)) (ja_cons sx_bin (je_op jo_add (je_dget (hu_of hr) (je_fld bs_name (je_var (i := 0) nm_self lo_Holder_hear_self rfl)) (je_ix jx_tup (je_var (i := 3) nm_number lo_Holder_hear_number rfl) je_int (fun _ _ => rfl)) (fun _ _ => rfl)) (je_fld bs_name (je_var (i := 0) nm_self lo_Holder_hear_self rfl))) ja_nil))) (jg_sub (je_fld bs_name (je_var (i := 0) nm_self lo_Holder_hear_self rfl)) (je_var (i := 2) nm_keeper lo_Holder_hear_keeper rfl) jp_list (fun _ => rfl)) rfl rfl)) jss_nil))))).h, ?_⟩
    dsimp only [L2.start, List.map_cons, List.map_nil, List.length_cons, List.length_nil, List.cons_append, List.nil_append, List.replicate]
    refine xseq_step fun R k0 => ?_
    have rest : (0 ≤ keeper ∧ keeper < n) → R [some (.ref p), some (.int clock), some (.int keeper), some (.ref q)] H := fun h0 => by
      refine k0 _ _ ?_
      clear k0 R no
      have qe : clock < c → E (.ref t.Back) none H := fun h1 => by
        have z := z H [p, da, de] (fr3 fun x o e _ _ _ => e)
        rw [hdue_back (fun y => y.2 h0) h1] at z
        rw [← cls_back]
        exact z ⟨dx, da, de, nm, lo, cs, es, rfl, hp, hda, hde, rfl, hlo0, hm1, ha, he, hen, hf0, sc⟩
      refine xseq_step fun R k => ?_
      try simp only [Y0, Y1, Y2, Y3, Y4, Y5, Y6, Y7, Y8, Y9, Ya, Yb, Yc, Yd, Ye, Yf, Yg, Yh, Yi, Yj, Yk, Yl, Ym, Yn, Yo, Yp, Yq, Yr, Ys, Yt, Yu, Yv, Yw, Yx, Yy, Yz, Z0, Z1, Z2, Z3, Z4, Z5, Z6, Z7, Z8, Z9, Za, Zb, Zc, Zd, Ze, Zf, Zg, Zh, Zi, Zj, Zk, Zl, Zm, Zn, Zo, Zp, Zq, Zr, Zs, Zt, Zu, Zv, Zw, Zx, Zy, Zz, V0, V1, V2, V3, V4, V5, V6, V7, V8, V9, Va, Vb, Vc, Vd, Ve, Vf, exists_eq_left', exists_eq_left, Vi, Vj, Vk, Vl, Vm, exists_and_left, Vo, and_true, true_and, if_true, if_false, decide_eq_true_eq, Vu, Vv, Vw, Vx, decide_eq_false_iff_not, reduceCtorEq, not_true_eq_false, not_false_eq_true, decide_true, decide_false]
      refine rd_Holder_latest T hp ?_
      try simp only [Y0, Y1, Y2, Y3, Y4, Y5, Y6, Y7, Y8, Y9, Ya, Yb, Yc, Yd, Ye, Yf, Yg, Yh, Yi, Yj, Yk, Yl, Ym, Yn, Yo, Yp, Yq, Yr, Ys, Yt, Yu, Yv, Yw, Yx, Yy, Yz, Z0, Z1, Z2, Z3, Z4, Z5, Z6, Z7, Z8, Z9, Za, Zb, Zc, Zd, Ze, Zf, Zg, Zh, Zi, Zj, Zk, Zl, Zm, Zn, Zo, Zp, Zq, Zr, Zs, Zt, Zu, Zv, Zw, Zx, Zy, Zz, V0, V1, V2, V3, V4, V5, V6, V7, V8, V9, Va, Vb, Vc, Vd, Ve, Vf, exists_eq_left', exists_eq_left, Vi, Vj, Vk, Vl, Vm, exists_and_left, Vo, and_true, true_and, if_true, if_false, decide_eq_true_eq, Vu, Vv, Vw, Vx, decide_eq_false_iff_not, reduceCtorEq, not_true_eq_false, not_false_eq_true, decide_true, decide_false]
      refine ⟨c, clock, rfl, sc, sm, qe, fun h1 => ?_⟩
      try simp only [Y0, Y1, Y2, Y3, Y4, Y5, Y6, Y7, Y8, Y9, Ya, Yb, Yc, Yd, Ye, Yf, Yg, Yh, Yi, Yj, Yk, Yl, Ym, Yn, Yo, Yp, Yq, Yr, Ys, Yt, Yu, Yv, Yw, Yx, Yy, Yz, Z0, Z1, Z2, Z3, Z4, Z5, Z6, Z7, Z8, Z9, Za, Zb, Zc, Zd, Ze, Zf, Zg, Zh, Zi, Zj, Zk, Zl, Zm, Zn, Zo, Zp, Zq, Zr, Zs, Zt, Zu, Zv, Zw, Zx, Zy, Zz, V0, V1, V2, V3, V4, V5, V6, V7, V8, V9, Va, Vb, Vc, Vd, Ve, Vf, exists_eq_left', exists_eq_left, Vi, Vj, Vk, Vl, Vm, exists_and_left, Vo, and_true, true_and, if_true, if_false, decide_eq_true_eq, Vu, Vv, Vw, Vx, decide_eq_false_iff_not, reduceCtorEq, not_true_eq_false, not_false_eq_true, decide_true, decide_false]
      refine st_Holder_latest T hp (k _ _ ?_)
      clear k R
      rw [hdue_hear h0 h1] at z
      dsimp only at h1 z
      have f1 : ∀ x o, H x = some o → x ≠ p → upd H p (.ins t.Holder dx (hf len (n / 2 + 1) nm l clock (lo + cs.length) da de)) x = some o := fun x o e ne => by rw [upd_ne ne]; exact e
      have hp1 : upd H p (.ins t.Holder dx (hf len (n / 2 + 1) nm l clock (lo + cs.length) da de)) p = some (.ins t.Holder dx (hf len (n / 2 + 1) nm l clock (lo + cs.length) da de)) := upd_same
      have hda1 := f1 _ _ hda npd.symm
      have hde1 := f1 _ _ hde npe.symm
      have hq1 := f1 _ _ hq (ne_of hq hp (by intro z; cases z))
      generalize upd H p (.ins t.Holder dx (hf len (n / 2 + 1) nm l clock (lo + cs.length) da de)) = H1 at f1 hp1 hda1 hde1 hq1 ⊢
      have he1 := EndR.mono (c' := clock) (by omega) he
      have ha1 : (∀ a b x, asks a b = some x → a = l ∧ (x + len ≤ clock ∨ valV (asksK lo cs) (Sum.inl b) = some (.int x))) := fun a b x e => ⟨(ha.1 a b x e).1, (ha.1 a b x e).2.elim (fun y => .inl (by dsimp only at y; omega)) .inr⟩
      obtain ⟨kn, rfl⟩ : ∃ kn : Nat, keeper = (kn : Int) := ⟨_, (Int.toNat_of_nonneg h0.1).symm⟩
      rw [Int.toNat_natCast] at z
      -- not in the dict
      have out : valV (asksK lo cs) (Sum.inl b) = none ∨ a ≠ l → Q .non H1 := fun hno => by
        cases ea : asks a b with
        | none =>
          rw [ea] at z
          exact z H1 [p, da, de] (fr3 fun x o e e1 _ _ => f1 x o e e1) ⟨dx, da, de, nm, lo, cs, es, rfl, hp1, hda1, hde1, rfl, hlo0, hm1, ⟨ha1, ha.2⟩, he1, hen, by dsimp only; omega, sm⟩
        | some x =>
          rw [ea] at z
          obtain ⟨e1, e2⟩ := ha.1 a b x ea
          have e2 : x + len ≤ c := by
            rcases e2 with e2 | e2
            · exact e2
            · rcases hno with y | y
              · rw [e2] at y; cases y
              · exact absurd e1 y
          refine z H1 [p, da, de] (fr3 fun x o e e1 _ _ => f1 x o e e1) ⟨dx, da, de, nm, lo, cs, es, rfl, hp1, hda1, hde1, rfl, hlo0, hm1, ⟨ha1, ha.2⟩, EndR.set1 kn ?_ he1, hen, by dsimp only; omega, sm⟩
          have := EndR.at_ kn he
          dsimp only at this ⊢
          rw [Int.max_def]
          split <;> omega
      try simp only [Y0, Y1, Y2, Y3, Y4, Y5, Y6, Y7, Y8, Y9, Ya, Yb, Yc, Yd, Ye, Yf, Yg, Yh, Yi, Yj, Yk, Yl, Ym, Yn, Yo, Yp, Yq, Yr, Ys, Yt, Yu, Yv, Yw, Yx, Yy, Yz, Z0, Z1, Z2, Z3, Z4, Z5, Z6, Z7, Z8, Z9, Za, Zb, Zc, Zd, Ze, Zf, Zg, Zh, Zi, Zj, Zk, Zl, Zm, Zn, Zo, Zp, Zq, Zr, Zs, Zt, Zu, Zv, Zw, Zx, Zy, Zz, V0, V1, V2, V3, V4, V5, V6, V7, V8, V9, Va, Vb, Vc, Vd, Ve, Vf, exists_eq_left', exists_eq_left, Vi, Vj, Vk, Vl, Vm, exists_and_left, Vo, and_true, true_and, if_true, if_false, decide_eq_true_eq, Vu, Vv, Vw, Vx, decide_eq_false_iff_not, reduceCtorEq, not_true_eq_false, not_false_eq_true, decide_true, decide_false]
      refine rd_ixT (SqT.of hq1) (v := .int a) rfl (rd_Holder_life T hp1 ?_)
      try simp only [Y0, Y1, Y2, Y3, Y4, Y5, Y6, Y7, Y8, Y9, Ya, Yb, Yc, Yd, Ye, Yf, Yg, Yh, Yi, Yj, Yk, Yl, Ym, Yn, Yo, Yp, Yq, Yr, Ys, Yt, Yu, Yv, Yw, Yx, Yy, Yz, Z0, Z1, Z2, Z3, Z4, Z5, Z6, Z7, Z8, Z9, Za, Zb, Zc, Zd, Ze, Zf, Zg, Zh, Zi, Zj, Zk, Zl, Zm, Zn, Zo, Zp, Zq, Zr, Zs, Zt, Zu, Zv, Zw, Zx, Zy, Zz, V0, V1, V2, V3, V4, V5, V6, V7, V8, V9, Va, Vb, Vc, Vd, Ve, Vf, exists_eq_left', exists_eq_left, Vi, Vj, Vk, Vl, Vm, exists_and_left, Vo, and_true, true_and, if_true, if_false, decide_eq_true_eq, Vu, Vv, Vw, Vx, decide_eq_false_iff_not, reduceCtorEq, not_true_eq_false, not_false_eq_true, decide_true, decide_false]
      split
      · rename_i h2
        refine rd_ixT (SqT.of hq1) (v := .int b) rfl (rd_Holder_asks T hp1 (rd_dinI hda1 ?_))
        cases hv : valV (asksK lo cs) (Sum.inl b) with
        | none =>
          try simp only [Y0, Y1, Y2, Y3, Y4, Y5, Y6, Y7, Y8, Y9, Ya, Yb, Yc, Yd, Ye, Yf, Yg, Yh, Yi, Yj, Yk, Yl, Ym, Yn, Yo, Yp, Yq, Yr, Ys, Yt, Yu, Yv, Yw, Yx, Yy, Yz, Z0, Z1, Z2, Z3, Z4, Z5, Z6, Z7, Z8, Z9, Za, Zb, Zc, Zd, Ze, Zf, Zg, Zh, Zi, Zj, Zk, Zl, Zm, Zn, Zo, Zp, Zq, Zr, Zs, Zt, Zu, Zv, Zw, Zx, Zy, Zz, V0, V1, V2, V3, V4, V5, V6, V7, V8, V9, Va, Vb, Vc, Vd, Ve, Vf, exists_eq_left', exists_eq_left, Vi, Vj, Vk, Vl, Vm, exists_and_left, Vo, and_true, true_and, if_true, if_false, decide_eq_true_eq, Vu, Vv, Vw, Vx, decide_eq_false_iff_not, reduceCtorEq, not_true_eq_false, not_false_eq_true, decide_true, decide_false, Option.isSome_none]
          exact out (.inl hv)
        | some v =>
          obtain ⟨x, rfl⟩ := asksK_val hv
          have ea := ha.2 b x hv
          dsimp only at ea
          rw [← h2] at ea
          rw [ea] at z
          dsimp only at z
          have hkn : kn < es.length := by omega
          have at1 : atI (es.map V.int) (kn : Int) = some (.int (es.getD kn 0)) := by
            refine atI_nat ?_
            rw [List.getElem?_map, List.getElem?_eq_getElem hkn, List.getD_eq_getElem?_getD, List.getElem?_eq_getElem hkn]
            rfl
          try simp only [Y0, Y1, Y2, Y3, Y4, Y5, Y6, Y7, Y8, Y9, Ya, Yb, Yc, Yd, Ye, Yf, Yg, Yh, Yi, Yj, Yk, Yl, Ym, Yn, Yo, Yp, Yq, Yr, Ys, Yt, Yu, Yv, Yw, Yx, Yy, Yz, Z0, Z1, Z2, Z3, Z4, Z5, Z6, Z7, Z8, Z9, Za, Zb, Zc, Zd, Ze, Zf, Zg, Zh, Zi, Zj, Zk, Zl, Zm, Zn, Zo, Zp, Zq, Zr, Zs, Zt, Zu, Zv, Zw, Zx, Zy, Zz, V0, V1, V2, V3, V4, V5, V6, V7, V8, V9, Va, Vb, Vc, Vd, Ve, Vf, exists_eq_left', exists_eq_left, Vi, Vj, Vk, Vl, Vm, exists_and_left, Vo, and_true, true_and, if_true, if_false, decide_eq_true_eq, Vu, Vv, Vw, Vx, decide_eq_false_iff_not, reduceCtorEq, not_true_eq_false, not_false_eq_true, decide_true, decide_false, Option.isSome_some]
          refine rd_Holder_ends T hp1 (rd_ixL (SqL.of hde1) at1 (rd_Holder_asks T hp1 (rd_ixT (SqT.of hq1) (v := .int b) rfl (rd_dgetI hda1 hv (rd_Holder_length T hp1 ?_)))))
          try simp only [Y0, Y1, Y2, Y3, Y4, Y5, Y6, Y7, Y8, Y9, Ya, Yb, Yc, Yd, Ye, Yf, Yg, Yh, Yi, Yj, Yk, Yl, Ym, Yn, Yo, Yp, Yq, Yr, Ys, Yt, Yu, Yv, Yw, Yx, Yy, Yz, Z0, Z1, Z2, Z3, Z4, Z5, Z6, Z7, Z8, Z9, Za, Zb, Zc, Zd, Ze, Zf, Zg, Zh, Zi, Zj, Zk, Zl, Zm, Zn, Zo, Zp, Zq, Zr, Zs, Zt, Zu, Zv, Zw, Zx, Zy, Zz, V0, V1, V2, V3, V4, V5, V6, V7, V8, V9, Va, Vb, Vc, Vd, Ve, Vf, exists_eq_left', exists_eq_left, Vi, Vj, Vk, Vl, Vm, exists_and_left, Vo, and_true, true_and, if_true, if_false, decide_eq_true_eq, Vu, Vv, Vw, Vx, decide_eq_false_iff_not, reduceCtorEq, not_true_eq_false, not_false_eq_true, decide_true, decide_false]
          refine rd_two ?_
          try simp only [Y0, Y1, Y2, Y3, Y4, Y5, Y6, Y7, Y8, Y9, Ya, Yb, Yc, Yd, Ye, Yf, Yg, Yh, Yi, Yj, Yk, Yl, Ym, Yn, Yo, Yp, Yq, Yr, Ys, Yt, Yu, Yv, Yw, Yx, Yy, Yz, Z0, Z1, Z2, Z3, Z4, Z5, Z6, Z7, Z8, Z9, Za, Zb, Zc, Zd, Ze, Zf, Zg, Zh, Zi, Zj, Zk, Zl, Zm, Zn, Zo, Zp, Zq, Zr, Zs, Zt, Zu, Zv, Zw, Zx, Zy, Zz, V0, V1, V2, V3, V4, V5, V6, V7, V8, V9, Va, Vb, Vc, Vd, Ve, Vf, exists_eq_left', exists_eq_left, Vi, Vj, Vk, Vl, Vm, exists_and_left, Vo, and_true, true_and, if_true, if_false, decide_eq_true_eq, Vu, Vv, Vw, Vx, decide_eq_false_iff_not, reduceCtorEq, not_true_eq_false, not_false_eq_true, decide_true, decide_false, gSub]
          refine rd_Holder_ends T hp1 ?_
          refine ⟨de, _, (kn : Int), kn, rfl, rfl, hde1, ?_, ?_⟩
          · unfold ixN
            rw [if_pos (by omega), if_pos (by rw [List.length_map]; omega)]
            rfl
          refine z _ [p, da, de] (fr3 fun x o e e1 e2 e3 => by rw [upd_ne e3]; exact f1 x o e e1) ⟨dx, da, de, nm, lo, cs, es.set kn (max (es.getD kn 0) (x + len)), rfl, by rw [upd_ne npe]; exact hp1, by rw [upd_ne nde]; exact hda1, by rw [upd_same, List.map_set], rfl, hlo0, hm1, ⟨ha1, ha.2⟩, EndR.set ?_ kn he1, by rw [List.length_set]; exact hen, by dsimp only; omega, sm⟩
          have := EndR.at_ kn he
          dsimp only at this ⊢
          rw [Int.max_def, Int.max_def]
          split <;> split <;> omega
      · rename_i h2
        exact out (.inr h2)
    clear k0
    try simp only [Y0, Y1, Y2, Y3, Y4, Y5, Y6, Y7, Y8, Y9, Ya, Yb, Yc, Yd, Ye, Yf, Yg, Yh, Yi, Yj, Yk, Yl, Ym, Yn, Yo, Yp, Yq, Yr, Ys, Yt, Yu, Yv, Yw, Yx, Yy, Yz, Z0, Z1, Z2, Z3, Z4, Z5, Z6, Z7, Z8, Z9, Za, Zb, Zc, Zd, Ze, Zf, Zg, Zh, Zi, Zj, Zk, Zl, Zm, Zn, Zo, Zp, Zq, Zr, Zs, Zt, Zu, Zv, Zw, Zx, Zy, Zz, V0, V1, V2, V3, V4, V5, V6, V7, V8, V9, Va, Vb, Vc, Vd, Ve, Vf, exists_eq_left', exists_eq_left, Vi, Vj, Vk, Vl, Vm, exists_and_left, Vo, and_true, true_and, if_true, if_false, decide_eq_true_eq, Vu, Vv, Vw, Vx, decide_eq_false_iff_not, reduceCtorEq, not_true_eq_false, not_false_eq_true, decide_true, decide_false]
    split
    · rename_i h0
      exact ⟨sk.log, fun _ => ⟨by decide, no (by omega)⟩⟩
    · rename_i h0
      refine rd_Holder_ends T hp (rd_lenL (SqL.of hde) ?_)
      try simp only [Y0, Y1, Y2, Y3, Y4, Y5, Y6, Y7, Y8, Y9, Ya, Yb, Yc, Yd, Ye, Yf, Yg, Yh, Yi, Yj, Yk, Yl, Ym, Yn, Yo, Yp, Yq, Yr, Ys, Yt, Yu, Yv, Yw, Yx, Yy, Yz, Z0, Z1, Z2, Z3, Z4, Z5, Z6, Z7, Z8, Z9, Za, Zb, Zc, Zd, Ze, Zf, Zg, Zh, Zi, Zj, Zk, Zl, Zm, Zn, Zo, Zp, Zq, Zr, Zs, Zt, Zu, Zv, Zw, Zx, Zy, Zz, V0, V1, V2, V3, V4, V5, V6, V7, V8, V9, Va, Vb, Vc, Vd, Ve, Vf, exists_eq_left', exists_eq_left, Vi, Vj, Vk, Vl, Vm, exists_and_left, Vo, and_true, true_and, if_true, if_false, decide_eq_true_eq, Vu, Vv, Vw, Vx, decide_eq_false_iff_not, reduceCtorEq, not_true_eq_false, not_false_eq_true, decide_true, decide_false]
      rw [List.length_map]
      split
      · rename_i h2
        exact ⟨sk.log, fun _ => ⟨by decide, no (by omega)⟩⟩
      · rename_i h2
        exact rest ⟨by omega, by omega⟩
theorem ok_Holder_until (T : Txt K mg t) : FnOk P w K mg base (CXF P w) 2 t.f_Holder_until t.d_Holder_until ["self", "clock"] (sp_Holder_until t) := by
  refine T.F_Holder_until.okX sc_Holder_until (fun vs H Q E h => ?_) (fun cdv A outer s H vs Q E hr h => ?_)
  · obtain ⟨p, S, n, len, h, clock, keeper, q, a, b, rfl, _⟩ := h
    rfl
  · obtain ⟨p, S, n, len, ⟨c, f, l, m, asks, ends⟩, clock, keeper, q, a, b, rfl, ⟨dx, da, de, nm, lo, cs, es, rfl, hp, hda, hde, hlo, hlo0, hm1, ha, he, hen, hf0, sc⟩, n1, n5, hm, sm, sk, sl, hq, z⟩ := h
    dsimp only at hp hda hde hlo hm1 ha he hf0 sc hm
    subst hlo
    have npd : p ≠ da := ne_of hp hda (by intro z; cases z)
    have npe : p ≠ de := ne_of hp hde (by intro z; cases z)
    have nde : da ≠ de := ne_of hda hde (by intro z; cases z)
    have qe : clock < c → E (.ref t.Back) none H := fun h1 => by
      have z := z H [p, da, de] (fr3 fun x o e _ _ _ => e)
      rw [hdue_back (by rintro ⟨y, _⟩; exact absurd y (by decide)) h1] at z
      rw [← cls_back]
      exact z ⟨dx, da, de, nm, lo, cs, es, rfl, hp, hda, hde, rfl, hlo0, hm1, ha, he, hen, hf0, sc⟩
    refine ⟨_, (jssx_cons (jsx_fld nc_call (je_var (i := 0) nm_self lo_Holder_until_self rfl) (jex_call nm_gone_on lo_Holder_until_gone_on (ok_gone_on T) (hr.mono (by decide)) T.m_gone_on T.F_gone_on.kp T.b_gone_on sx_attr (ns_cons sx_name ns_nil) (ja_cons sx_attr (je_fld bs_name (je_var (i := 0) nm_self lo_Holder_until_self rfl)) (ja_cons sx_name (je_var (i := 1) nm_clock lo_Holder_until_clock rfl) ja_nil))))
      (jssx_cons (jx (js_set (i := 2) nc_sub sc_Holder_until.nd rfl lo_Holder_until_end (je_ix jx_list (je_sortR nm_sorted lo_Holder_until_sorted T.z_sorted bt_sorted sx_attr (je_fld bs_name (je_var (i := 0) nm_self lo_Holder_until_self rfl))) (je_op jo_sub (je_fld bs_name (je_var (i := 0) nm_self lo_Holder_until_self rfl)) je_int) (fun _ _ => rfl))))
      (jssx_one (jx (js_ret (je_if (jt_cmp jo_lt (je_var (i := 1) nm_clock lo_Holder_until_clock rfl) (je_var (i := 2) nm_end lo_Holder_until_end rfl) (by decide) (by decide)) (je_var (i := 2) nm_end lo_Holder_until_end rfl) je_non)))))).h, ?_⟩
    dsimp only [L2.start, List.map_cons, List.map_nil, List.length_cons, List.length_nil, List.cons_append, List.nil_append, List.replicate]
    refine xseq_step fun R k => ?_
    try simp only [Y0, Y1, Y2, Y3, Y4, Y5, Y6, Y7, Y8, Y9, Ya, Yb, Yc, Yd, Ye, Yf, Yg, Yh, Yi, Yj, Yk, Yl, Ym, Yn, Yo, Yp, Yq, Yr, Ys, Yt, Yu, Yv, Yw, Yx, Yy, Yz, Z0, Z1, Z2, Z3, Z4, Z5, Z6, Z7, Z8, Z9, Za, Zb, Zc, Zd, Ze, Zf, Zg, Zh, Zi, Zj, Zk, Zl, Zm, Zn, Zo, Zp, Zq, Zr, Zs, Zt, Zu, Zv, Zw, Zx, Zy, Zz, V0, V1, V2, V3, V4, V5, V6, V7, V8, V9, Va, Vb, Vc, Vd, Ve, Vf, exists_eq_left', exists_eq_left, Vi, Vj, Vk, Vl, Vm, exists_and_left, Vo, and_true, true_and, if_true, if_false, decide_eq_true_eq, Vu, Vv, Vw, Vx, decide_eq_false_iff_not, reduceCtorEq, not_true_eq_false, not_false_eq_true, decide_true, decide_false]
    refine rd_Holder_latest T hp ?_
    try simp only [Y0, Y1, Y2, Y3, Y4, Y5, Y6, Y7, Y8, Y9, Ya, Yb, Yc, Yd, Ye, Yf, Yg, Yh, Yi, Yj, Yk, Yl, Ym, Yn, Yo, Yp, Yq, Yr, Ys, Yt, Yu, Yv, Yw, Yx, Yy, Yz, Z0, Z1, Z2, Z3, Z4, Z5, Z6, Z7, Z8, Z9, Za, Zb, Zc, Zd, Ze, Zf, Zg, Zh, Zi, Zj, Zk, Zl, Zm, Zn, Zo, Zp, Zq, Zr, Zs, Zt, Zu, Zv, Zw, Zx, Zy, Zz, V0, V1, V2, V3, V4, V5, V6, V7, V8, V9, Va, Vb, Vc, Vd, Ve, Vf, exists_eq_left', exists_eq_left, Vi, Vj, Vk, Vl, Vm, exists_and_left, Vo, and_true, true_and, if_true, if_false, decide_eq_true_eq, Vu, Vv, Vw, Vx, decide_eq_false_iff_not, reduceCtorEq, not_true_eq_false, not_false_eq_true, decide_true, decide_false]
    refine ⟨c, clock, rfl, sc, sm, qe, fun h1 => ?_⟩
    try simp only [Y0, Y1, Y2, Y3, Y4, Y5, Y6, Y7, Y8, Y9, Ya, Yb, Yc, Yd, Ye, Yf, Yg, Yh, Yi, Yj, Yk, Yl, Ym, Yn, Yo, Yp, Yq, Yr, Ys, Yt, Yu, Yv, Yw, Yx, Yy, Yz, Z0, Z1, Z2, Z3, Z4, Z5, Z6, Z7, Z8, Z9, Za, Zb, Zc, Zd, Ze, Zf, Zg, Zh, Zi, Zj, Zk, Zl, Zm, Zn, Zo, Zp, Zq, Zr, Zs, Zt, Zu, Zv, Zw, Zx, Zy, Zz, V0, V1, V2, V3, V4, V5, V6, V7, V8, V9, Va, Vb, Vc, Vd, Ve, Vf, exists_eq_left', exists_eq_left, Vi, Vj, Vk, Vl, Vm, exists_and_left, Vo, and_true, true_and, if_true, if_false, decide_eq_true_eq, Vu, Vv, Vw, Vx, decide_eq_false_iff_not, reduceCtorEq, not_true_eq_false, not_false_eq_true, decide_true, decide_false]
    refine st_Holder_latest T hp (k _ _ ?_)
    clear k R
    rw [hdue_until h1] at z
    dsimp only at h1 z
    have f1 : ∀ x o, H x = some o → x ≠ p → upd H p (.ins t.Holder dx (hf len (n / 2 + 1) nm l clock (lo + cs.length) da de)) x = some o := fun x o e ne => by rw [upd_ne ne]; exact e
    have hp1 : upd H p (.ins t.Holder dx (hf len (n / 2 + 1) nm l clock (lo + cs.length) da de)) p = some (.ins t.Holder dx (hf len (n / 2 + 1) nm l clock (lo + cs.length) da de)) := upd_same
    have hda1 := f1 _ _ hda npd.symm
    have hde1 := f1 _ _ hde npe.symm
    generalize upd H p (.ins t.Holder dx (hf len (n / 2 + 1) nm l clock (lo + cs.length) da de)) = H1 at f1 hp1 hda1 hde1 ⊢
    refine xseq_step fun R k => ?_
    try simp only [Y0, Y1, Y2, Y3, Y4, Y5, Y6, Y7, Y8, Y9, Ya, Yb, Yc, Yd, Ye, Yf, Yg, Yh, Yi, Yj, Yk, Yl, Ym, Yn, Yo, Yp, Yq, Yr, Ys, Yt, Yu, Yv, Yw, Yx, Yy, Yz, Z0, Z1, Z2, Z3, Z4, Z5, Z6, Z7, Z8, Z9, Za, Zb, Zc, Zd, Ze, Zf, Zg, Zh, Zi, Zj, Zk, Zl, Zm, Zn, Zo, Zp, Zq, Zr, Zs, Zt, Zu, Zv, Zw, Zx, Zy, Zz, V0, V1, V2, V3, V4, V5, V6, V7, V8, V9, Va, Vb, Vc, Vd, Ve, Vf, exists_eq_left', exists_eq_left, Vi, Vj, Vk, Vl, Vm, exists_and_left, Vo, and_true, true_and, if_true, if_false, decide_eq_true_eq, Vu, Vv, Vw, Vx, decide_eq_false_iff_not, reduceCtorEq, not_true_eq_false, not_false_eq_true, decide_true, decide_false]
    refine rd_Holder_ends T hp1 ⟨de, es, rfl, SqL.of hde1, by omega, fun ms ls pm pw hls => ?_⟩
    have f2 : ∀ x o, H1 x = some o → upd H1 ls (.lst (ms.map V.int)) x = some o := fun x o e => by rw [upd_ne (ne_of_none e hls)]; exact e
    have hls2 : upd H1 ls (.lst (ms.map V.int)) ls = some (.lst (ms.map V.int)) := upd_same
    generalize upd H1 ls (.lst (ms.map V.int)) = H2 at f2 hls2 ⊢
    have hml : ms.length = es.length := pm.length_eq
    obtain ⟨kn, hkn⟩ : ∃ kn : Nat, (kn : Int) = n / 2 := ⟨(n / 2).toNat, Int.toNat_of_nonneg (by omega)⟩
    have hkl : kn < ms.length := by omega
    refine rd_Holder_needed T (f2 _ _ hp1) ?_
    try simp only [Y0, Y1, Y2, Y3, Y4, Y5, Y6, Y7, Y8, Y9, Ya, Yb, Yc, Yd, Ye, Yf, Yg, Yh, Yi, Yj, Yk, Yl, Ym, Yn, Yo, Yp, Yq, Yr, Ys, Yt, Yu, Yv, Yw, Yx, Yy, Yz, Z0, Z1, Z2, Z3, Z4, Z5, Z6, Z7, Z8, Z9, Za, Zb, Zc, Zd, Ze, Zf, Zg, Zh, Zi, Zj, Zk, Zl, Zm, Zn, Zo, Zp, Zq, Zr, Zs, Zt, Zu, Zv, Zw, Zx, Zy, Zz, V0, V1, V2, V3, V4, V5, V6, V7, V8, V9, Va, Vb, Vc, Vd, Ve, Vf, exists_eq_left', exists_eq_left, Vi, Vj, Vk, Vl, Vm, exists_and_left, Vo, and_true, true_and, if_true, if_false, decide_eq_true_eq, Vu, Vv, Vw, Vx, decide_eq_false_iff_not, reduceCtorEq, not_true_eq_false, not_false_eq_true, decide_true, decide_false]
    rw [Int.add_sub_cancel, ← hkn]
    refine rd_ixL (v := .int (ms.getD kn 0)) (SqL.of hls2) (atI_nat ?_) (k _ _ ?_)
    · rw [List.getElem?_map, List.getElem?_eq_getElem hkl, List.getD_eq_getElem?_getD, List.getElem?_eq_getElem hkl]
      rfl
    clear k R
    obtain ⟨me1, me2⟩ := most_end (clock := clock) pm pw hkl
    have eg : goodE ⟨c, f, l, lo + cs.length, asks, ends⟩ clock = es.filter fun e => decide (clock < e) := (EndR.good (by omega) he).symm
    have hb : holdsB n ⟨c, f, l, lo + cs.length, asks, ends⟩ clock = decide (kn < (es.filter fun e => decide (clock < e)).length) := by
      unfold holdsB
      rw [eg]
      refine decide_eq_decide.mpr ⟨fun y => by omega, fun y => by omega⟩
    rw [hb, eg, show (n / 2).toNat = kn by omega] at z
    have z := z H2 [p, da, de] (fr3 fun x o e e1 _ _ => f2 _ _ (f1 x o e e1)) ⟨dx, da, de, nm, lo, cs, es, rfl, f2 _ _ hp1, f2 _ _ hda1, f2 _ _ hde1, rfl, hlo0, hm1, ⟨fun a b x e => ⟨(ha.1 a b x e).1, (ha.1 a b x e).2.elim (fun y => .inl (by dsimp only at y ⊢; omega)) .inr⟩, ha.2⟩, EndR.mono (by dsimp only; omega) he, hen, by dsimp only; omega, sm⟩
    try simp only [Y0, Y1, Y2, Y3, Y4, Y5, Y6, Y7, Y8, Y9, Ya, Yb, Yc, Yd, Ye, Yf, Yg, Yh, Yi, Yj, Yk, Yl, Ym, Yn, Yo, Yp, Yq, Yr, Ys, Yt, Yu, Yv, Yw, Yx, Yy, Yz, Z0, Z1, Z2, Z3, Z4, Z5, Z6, Z7, Z8, Z9, Za, Zb, Zc, Zd, Ze, Zf, Zg, Zh, Zi, Zj, Zk, Zl, Zm, Zn, Zo, Zp, Zq, Zr, Zs, Zt, Zu, Zv, Zw, Zx, Zy, Zz, V0, V1, V2, V3, V4, V5, V6, V7, V8, V9, Va, Vb, Vc, Vd, Ve, Vf, exists_eq_left', exists_eq_left, Vi, Vj, Vk, Vl, Vm, exists_and_left, Vo, and_true, true_and, if_true, if_false, decide_eq_true_eq, Vu, Vv, Vw, Vx, decide_eq_false_iff_not, reduceCtorEq, not_true_eq_false, not_false_eq_true, decide_true, decide_false]
    split
    · rename_i h2
      rw [if_pos (decide_eq_true (me1.mp h2)), ← me2 (me1.mp h2)] at z
      exact z
    · rename_i h2
      rw [if_neg fun y => h2 (me1.mpr (of_decide_eq_true y))] at z
      exact z
theorem ok_Holder_holds (T : Txt K mg t) : FnOk P w K mg base (CXF P w) 3 t.f_Holder_holds t.d_Holder_holds ["self", "clock"] (sp_Holder_holds t) := by
  refine T.F_Holder_holds.okX sc_Holder_holds (fun vs H Q E h => ?_) (fun cdv A outer s H vs Q E hr h => ?_)
  · obtain ⟨p, S, n, len, h, clock, keeper, q, a, b, rfl, _⟩ := h
    rfl
  · obtain ⟨p, S, n, len, ⟨c, f, l, m, asks, ends⟩, clock, keeper, q, a, b, rfl, ⟨dx, da, de, nm, lo, cs, es, rfl, hp, hda, hde, hlo, hlo0, hm1, ha, he, hen, hf0, sc⟩, n1, n5, hm, sm, sk, sl, hq, z⟩ := h
    dsimp only at hp hda hde hlo hm1 ha he hf0 sc hm
    subst hlo
    have npd : p ≠ da := ne_of hp hda (by intro z; cases z)
    have npe : p ≠ de := ne_of hp hde (by intro z; cases z)
    have nde : da ≠ de := ne_of hda hde (by intro z; cases z)
    refine ⟨_, (jssx_one (jsx_ret (jex_notN (jex_meth bs_name rfl (by decide) (je_var (i := 0) nm_self lo_Holder_holds_self rfl) T.cl_Holder T.h_Holder_until (ok_Holder_until T) (hr.mono (by decide)) T.b_Holder_until sx_name ns_nil (ja_cons sx_name (je_var (i := 1) nm_clock lo_Holder_holds_clock rfl) ja_nil))))).h, ?_⟩
    dsimp only [L2.start, List.map_cons, List.map_nil, List.length_cons, List.length_nil, List.cons_append, List.nil_append, List.replicate]
    have hat : HAt t H p [p, da, de] n len ⟨c, f, l, lo + cs.length, asks, ends⟩ := ⟨dx, da, de, nm, lo, cs, es, rfl, hp, hda, hde, rfl, hlo0, hm1, ha, he, hen, hf0, sc⟩
    try simp only [Y0, Y1, Y2, Y3, Y4, Y5, Y6, Y7, Y8, Y9, Ya, Yb, Yc, Yd, Ye, Yf, Yg, Yh, Yi, Yj, Yk, Yl, Ym, Yn, Yo, Yp, Yq, Yr, Ys, Yt, Yu, Yv, Yw, Yx, Yy, Yz, Z0, Z1, Z2, Z3, Z4, Z5, Z6, Z7, Z8, Z9, Za, Zb, Zc, Zd, Ze, Zf, Zg, Zh, Zi, Zj, Zk, Zl, Zm, Zn, Zo, Zp, Zq, Zr, Zs, Zt, Zu, Zv, Zw, Zx, Zy, Zz, V0, V1, V2, V3, V4, V5, V6, V7, V8, V9, Va, Vb, Vc, Vd, Ve, Vf, exists_eq_left', exists_eq_left, Vi, Vj, Vk, Vl, Vm, exists_and_left, Vo, and_true, true_and, if_true, if_false, decide_eq_true_eq, Vu, Vv, Vw, Vx, decide_eq_false_iff_not, reduceCtorEq, not_true_eq_false, not_false_eq_true, decide_true, decide_false]
    refine me_Holder_until hp ⟨p, [p, da, de], n, len, ⟨c, f, l, lo + cs.length, asks, ends⟩, clock, keeper, q, a, b, rfl, hat, n1, n5, hm, sm, sk, sl, fun y => absurd y (by decide), fun H' S' fr ho => ?_⟩
    by_cases h1 : clock < c
    · rw [hdue_back (by rintro ⟨y, _⟩; exact absurd y (by decide)) h1] at ho ⊢
      have z := z H' S' fr
      rw [hdue_back (by rintro ⟨y, _⟩; exact absurd y (by decide)) h1] at z
      exact z ho
    · rw [hdue_until h1] at ho ⊢
      have z := z H' S' fr
      rw [hdue_holds h1] at z
      have z := z ho
      dsimp only at z ⊢
      cases e : holdsB n ⟨c, f, l, lo + cs.length, asks, ends⟩ clock with
      | true =>
        rw [e] at z
        exact z
      | false =>
        rw [e] at z
        exact z
theorem ok_Holder_free (T : Txt K mg t) : FnOk P w K mg base (CXF P w) 2 t.f_Holder_free t.d_Holder_free ["self", "clock"] (sp_Holder_free t) := by
  refine T.F_Holder_free.okX sc_Holder_free (fun vs H Q E h => ?_) (fun cdv A outer s H vs Q E hr h => ?_)
  · obtain ⟨p, S, n, len, h, clock, keeper, q, a, b, rfl, _⟩ := h
    rfl
  · obtain ⟨p, S, n, len, ⟨c, f, l, m, asks, ends⟩, clock, keeper, q, a, b, rfl, ⟨dx, da, de, nm, lo, cs, es, rfl, hp, hda, hde, hlo, hlo0, hm1, ha, he, hen, hf0, sc⟩, n1, n5, hm, sm, sk, sl, hq, z⟩ := h
    dsimp only at hp hda hde hlo hm1 ha he hf0 sc hm
    subst hlo
    have npd : p ≠ da := ne_of hp hda (by intro z; cases z)
    have npe : p ≠ de := ne_of hp hde (by intro z; cases z)
    have nde : da ≠ de := ne_of hda hde (by intro z; cases z)
    have qe : clock < c → E (.ref t.Back) none H := fun h1 => by
      have z := z H [p, da, de] (fr3 fun x o e _ _ _ => e)
      rw [hdue_back (by rintro ⟨y, _⟩; exact absurd y (by decide)) h1] at z
      rw [← cls_back]
      exact z ⟨dx, da, de, nm, lo, cs, es, rfl, hp, hda, hde, rfl, hlo0, hm1, ha, he, hen, hf0, sc⟩
    refine ⟨_, (jssx_cons (jsx_set (i := 2) nc_call sc_Holder_free.nd rfl lo_Holder_free_latest (jex_call nm_gone_on lo_Holder_free_gone_on (ok_gone_on T) (hr.mono (by decide)) T.m_gone_on T.F_gone_on.kp T.b_gone_on sx_attr (ns_cons sx_name ns_nil) (ja_cons sx_attr (je_fld bs_name (je_var (i := 0) nm_self lo_Holder_free_self rfl)) (ja_cons sx_name (je_var (i := 1) nm_clock lo_Holder_free_clock rfl) ja_nil))))
      (jssx_cons (jsx_if (jt_cmp jo_eq (je_fld bs_name (je_var (i := 0) nm_self lo_Holder_free_self rfl)) je_int (by decide) (by decide)) (jssx_one (jsx_raise nm_NotAsked rfl lo_Holder_free_NotAsked T.m_NotAsked T.n_NotAsked T.x_NotAsked PySem.F.excBase_ValueError sx_const ns_nil (ja_cons sx_const je_str ja_nil))) jssx_nil)
      (jssx_cons (jx (js_fld nc_name (je_var (i := 0) nm_self lo_Holder_free_self rfl) (je_var (i := 2) nm_latest lo_Holder_free_latest rfl)))
      (jssx_cons (jx (js_fld nc_dict (je_var (i := 0) nm_self lo_Holder_free_self rfl) je_dnewK))
      (jssx_cons (jx (js_fld nc_bin (je_var (i := 0) nm_self lo_Holder_free_self rfl) (je_op jo_rep (je_lst (ja_cons sx_name (je_var (i := 1) nm_clock lo_Holder_free_clock rfl) ja_nil)) (je_callB nm_len lo_Holder_free_len jc_len T.z_len bt_len sx_attr ns_nil (ja_cons sx_attr (je_fld bs_name (je_var (i := 0) nm_self lo_Holder_free_self rfl)) ja_nil)))))
      (jssx_one (jx (js_ret (je_tup (ja_cons sx_attr (je_fld bs_name (je_var (i := 0) nm_self lo_Holder_free_self rfl)) (ja_cons sx_bin (je_op jo_sub (je_fld bs_name (je_var (i := 0) nm_self lo_Holder_free_self rfl)) je_int) ja_nil))))))))))).h, ?_⟩
    dsimp only [L2.start, List.map_cons, List.map_nil, List.length_cons, List.length_nil, List.cons_append, List.nil_append, List.replicate]
    refine xseq_step fun R k => ?_
    try simp only [Y0, Y1, Y2, Y3, Y4, Y5, Y6, Y7, Y8, Y9, Ya, Yb, Yc, Yd, Ye, Yf, Yg, Yh, Yi, Yj, Yk, Yl, Ym, Yn, Yo, Yp, Yq, Yr, Ys, Yt, Yu, Yv, Yw, Yx, Yy, Yz, Z0, Z1, Z2, Z3, Z4, Z5, Z6, Z7, Z8, Z9, Za, Zb, Zc, Zd, Ze, Zf, Zg, Zh, Zi, Zj, Zk, Zl, Zm, Zn, Zo, Zp, Zq, Zr, Zs, Zt, Zu, Zv, Zw, Zx, Zy, Zz, V0, V1, V2, V3, V4, V5, V6, V7, V8, V9, Va, Vb, Vc, Vd, Ve, Vf, exists_eq_left', exists_eq_left, Vi, Vj, Vk, Vl, Vm, exists_and_left, Vo, and_true, true_and, if_true, if_false, decide_eq_true_eq, Vu, Vv, Vw, Vx, decide_eq_false_iff_not, reduceCtorEq, not_true_eq_false, not_false_eq_true, decide_true, decide_false]
    refine rd_Holder_latest T hp ?_
    try simp only [Y0, Y1, Y2, Y3, Y4, Y5, Y6, Y7, Y8, Y9, Ya, Yb, Yc, Yd, Ye, Yf, Yg, Yh, Yi, Yj, Yk, Yl, Ym, Yn, Yo, Yp, Yq, Yr, Ys, Yt, Yu, Yv, Yw, Yx, Yy, Yz, Z0, Z1, Z2, Z3, Z4, Z5, Z6, Z7, Z8, Z9, Za, Zb, Zc, Zd, Ze, Zf, Zg, Zh, Zi, Zj, Zk, Zl, Zm, Zn, Zo, Zp, Zq, Zr, Zs, Zt, Zu, Zv, Zw, Zx, Zy, Zz, V0, V1, V2, V3, V4, V5, V6, V7, V8, V9, Va, Vb, Vc, Vd, Ve, Vf, exists_eq_left', exists_eq_left, Vi, Vj, Vk, Vl, Vm, exists_and_left, Vo, and_true, true_and, if_true, if_false, decide_eq_true_eq, Vu, Vv, Vw, Vx, decide_eq_false_iff_not, reduceCtorEq, not_true_eq_false, not_false_eq_true, decide_true, decide_false]
    refine ⟨c, clock, rfl, sc, sm, qe, fun h1 => k _ _ ?_⟩
    clear k R
    refine xseq_step fun R k => ?_
    try simp only [Y0, Y1, Y2, Y3, Y4, Y5, Y6, Y7, Y8, Y9, Ya, Yb, Yc, Yd, Ye, Yf, Yg, Yh, Yi, Yj, Yk, Yl, Ym, Yn, Yo, Yp, Yq, Yr, Ys, Yt, Yu, Yv, Yw, Yx, Yy, Yz, Z0, Z1, Z2, Z3, Z4, Z5, Z6, Z7, Z8, Z9, Za, Zb, Zc, Zd, Ze, Zf, Zg, Zh, Zi, Zj, Zk, Zl, Zm, Zn, Zo, Zp, Zq, Zr, Zs, Zt, Zu, Zv, Zw, Zx, Zy, Zz, V0, V1, V2, V3, V4, V5, V6, V7, V8, V9, Va, Vb, Vc, Vd, Ve, Vf, exists_eq_left', exists_eq_left, Vi, Vj, Vk, Vl, Vm, exists_and_left, Vo, and_true, true_and, if_true, if_false, decide_eq_true_eq, Vu, Vv, Vw, Vx, decide_eq_false_iff_not, reduceCtorEq, not_true_eq_false, not_false_eq_true, decide_true, decide_false]
    refine rd_Holder_told T hp ?_
    try simp only [Y0, Y1, Y2, Y3, Y4, Y5, Y6, Y7, Y8, Y9, Ya, Yb, Yc, Yd, Ye, Yf, Yg, Yh, Yi, Yj, Yk, Yl, Ym, Yn, Yo, Yp, Yq, Yr, Ys, Yt, Yu, Yv, Yw, Yx, Yy, Yz, Z0, Z1, Z2, Z3, Z4, Z5, Z6, Z7, Z8, Z9, Za, Zb, Zc, Zd, Ze, Zf, Zg, Zh, Zi, Zj, Zk, Zl, Zm, Zn, Zo, Zp, Zq, Zr, Zs, Zt, Zu, Zv, Zw, Zx, Zy, Zz, V0, V1, V2, V3, V4, V5, V6, V7, V8, V9, Va, Vb, Vc, Vd, Ve, Vf, exists_eq_left', exists_eq_left, Vi, Vj, Vk, Vl, Vm, exists_and_left, Vo, and_true, true_and, if_true, if_false, decide_eq_true_eq, Vu, Vv, Vw, Vx, decide_eq_false_iff_not, reduceCtorEq, not_true_eq_false, not_false_eq_true, decide_true, decide_false]
    split
    · rename_i h2
      rw [hdue_asked h1 h2, ] at z
      rw [cls_asked.symm]
      exact ⟨by decide, z H [p, da, de] (fr3 fun x o e _ _ _ => e) ⟨dx, da, de, nm, lo, cs, es, rfl, hp, hda, hde, rfl, hlo0, hm1, ha, he, hen, hf0, sc⟩⟩
    · rename_i h2
      refine k _ _ ?_
      clear k R
      rw [hdue_free h1 h2] at z
      dsimp only at h1 z
      refine xseq_step fun R k => ?_
      try simp only [Y0, Y1, Y2, Y3, Y4, Y5, Y6, Y7, Y8, Y9, Ya, Yb, Yc, Yd, Ye, Yf, Yg, Yh, Yi, Yj, Yk, Yl, Ym, Yn, Yo, Yp, Yq, Yr, Ys, Yt, Yu, Yv, Yw, Yx, Yy, Yz, Z0, Z1, Z2, Z3, Z4, Z5, Z6, Z7, Z8, Z9, Za, Zb, Zc, Zd, Ze, Zf, Zg, Zh, Zi, Zj, Zk, Zl, Zm, Zn, Zo, Zp, Zq, Zr, Zs, Zt, Zu, Zv, Zw, Zx, Zy, Zz, V0, V1, V2, V3, V4, V5, V6, V7, V8, V9, Va, Vb, Vc, Vd, Ve, Vf, exists_eq_left', exists_eq_left, Vi, Vj, Vk, Vl, Vm, exists_and_left, Vo, and_true, true_and, if_true, if_false, decide_eq_true_eq, Vu, Vv, Vw, Vx, decide_eq_false_iff_not, reduceCtorEq, not_true_eq_false, not_false_eq_true, decide_true, decide_false]
      refine st_Holder_latest T hp (k _ _ ?_)
      clear k R
      have f1 : ∀ x o, H x = some o → x ≠ p → upd H p (.ins t.Holder dx (hf len (n / 2 + 1) nm l clock (lo + cs.length) da de)) x = some o := fun x o e ne => by rw [upd_ne ne]; exact e
      have hp1 : upd H p (.ins t.Holder dx (hf len (n / 2 + 1) nm l clock (lo + cs.length) da de)) p = some (.ins t.Holder dx (hf len (n / 2 + 1) nm l clock (lo + cs.length) da de)) := upd_same
      have hda1 := f1 _ _ hda npd.symm
      have hde1 := f1 _ _ hde npe.symm
      generalize upd H p (.ins t.Holder dx (hf len (n / 2 + 1) nm l clock (lo + cs.length) da de)) = H1 at f1 hp1 hda1 hde1 ⊢
      refine xseq_step fun R k => ?_
      try simp only [Y0, Y1, Y2, Y3, Y4, Y5, Y6, Y7, Y8, Y9, Ya, Yb, Yc, Yd, Ye, Yf, Yg, Yh, Yi, Yj, Yk, Yl, Ym, Yn, Yo, Yp, Yq, Yr, Ys, Yt, Yu, Yv, Yw, Yx, Yy, Yz, Z0, Z1, Z2, Z3, Z4, Z5, Z6, Z7, Z8, Z9, Za, Zb, Zc, Zd, Ze, Zf, Zg, Zh, Zi, Zj, Zk, Zl, Zm, Zn, Zo, Zp, Zq, Zr, Zs, Zt, Zu, Zv, Zw, Zx, Zy, Zz, V0, V1, V2, V3, V4, V5, V6, V7, V8, V9, Va, Vb, Vc, Vd, Ve, Vf, exists_eq_left', exists_eq_left, Vi, Vj, Vk, Vl, Vm, exists_and_left, Vo, and_true, true_and, if_true, if_false, decide_eq_true_eq, Vu, Vv, Vw, Vx, decide_eq_false_iff_not, reduceCtorEq, not_true_eq_false, not_false_eq_true, decide_true, decide_false]
      intro dn hdn
      have hdn0 : H dn = none := by
        cases e : H dn with
        | none => rfl
        | some o =>
          by_cases y : dn = p
          · rw [y, hp1] at hdn; cases hdn
          · rw [f1 _ _ e y] at hdn; cases hdn
      have npn : p ≠ dn := ne_of_none hp1 hdn
      have nen : de ≠ dn := ne_of_none hde1 hdn
      refine st_Holder_asks T (by rw [upd_ne npn]; exact hp1) (k _ _ ?_)
      clear k R
      have f2 : ∀ x o, H1 x = some o → x ≠ p → upd (upd H1 dn (.dK [])) p (.ins t.Holder dx (hf len (n / 2 + 1) nm l clock (lo + cs.length) dn de)) x = some o := fun x o e ne => by rw [upd_ne ne, upd_ne (ne_of_none e hdn)]; exact e
      have hp2 : upd (upd H1 dn (.dK [])) p (.ins t.Holder dx (hf len (n / 2 + 1) nm l clock (lo + cs.length) dn de)) p = some (.ins t.Holder dx (hf len (n / 2 + 1) nm l clock (lo + cs.length) dn de)) := upd_same
      have hdn2 : upd (upd H1 dn (.dK [])) p (.ins t.Holder dx (hf len (n / 2 + 1) nm l clock (lo + cs.length) dn de)) dn = some (.dK []) := by rw [upd_ne npn.symm]; exact upd_same
      have hde2 := f2 _ _ hde1 npe.symm
      generalize upd (upd H1 dn (.dK [])) p (.ins t.Holder dx (hf len (n / 2 + 1) nm l clock (lo + cs.length) dn de)) = H2 at f2 hp2 hdn2 hde2 ⊢
      refine xseq_step fun R k => ?_
      try simp only [Y0, Y1, Y2, Y3, Y4, Y5, Y6, Y7, Y8, Y9, Ya, Yb, Yc, Yd, Ye, Yf, Yg, Yh, Yi, Yj, Yk, Yl, Ym, Yn, Yo, Yp, Yq, Yr, Ys, Yt, Yu, Yv, Yw, Yx, Yy, Yz, Z0, Z1, Z2, Z3, Z4, Z5, Z6, Z7, Z8, Z9, Za, Zb, Zc, Zd, Ze, Zf, Zg, Zh, Zi, Zj, Zk, Zl, Zm, Zn, Zo, Zp, Zq, Zr, Zs, Zt, Zu, Zv, Zw, Zx, Zy, Zz, V0, V1, V2, V3, V4, V5, V6, V7, V8, V9, Va, Vb, Vc, Vd, Ve, Vf, exists_eq_left', exists_eq_left, Vi, Vj, Vk, Vl, Vm, exists_and_left, Vo, and_true, true_and, if_true, if_false, decide_eq_true_eq, Vu, Vv, Vw, Vx, decide_eq_false_iff_not, reduceCtorEq, not_true_eq_false, not_false_eq_true, decide_true, decide_false]
      refine ⟨by decide, fun p1 hp1' => ?_⟩
      have f3 : ∀ {o : HO} x o', H2 x = some o' → upd H2 p1 o x = some o' := fun x o' e => by rw [upd_ne (ne_of_none e hp1')]; exact e
      refine rd_Holder_ends T (f3 _ _ hp2) (rd_lenL (SqL.of (f3 _ _ hde2)) ?_)
      rw [List.length_map, hen]
      refine ⟨p1, n, _, rfl, rfl, upd_same, by omega, by omega, ?_, fun dg hdg => ?_⟩
      · have := sizeLine_eq
        rw [List.length_singleton]
        omega
      rw [rep_flat]
      have f4 : ∀ {o2 : HO} x o', H2 x = some o' → upd (upd H2 p1 (.lst [.int clock])) dg o2 x = some o' := fun {o2} x o' e => by rw [upd_ne (ne_of_none (f3 x o' e) hdg)]; exact f3 x o' e
      have hdg2 : H2 dg = none := by
        cases e : H2 dg with
        | none => rfl
        | some o => rw [f3 _ _ e] at hdg; cases hdg
      have hdg0 : H dg = none := by
        cases e : H dg with
        | none => rfl
        | some o =>
          by_cases y : dg = p
          · rw [y, hp2] at hdg2; cases hdg2
          · rw [f2 _ _ (f1 _ _ e y) y] at hdg2; cases hdg2
      have npg : p ≠ dg := ne_of_none hp2 hdg2
      have nng : dn ≠ dg := ne_of_none hdn2 hdg2
      refine st_Holder_ends T (f4 _ _ hp2) (k _ _ ?_)
      clear k R
      have f5 : ∀ x o, H2 x = some o → x ≠ p → upd (upd (upd H2 p1 (.lst [.int clock])) dg (.lst ((List.replicate n.toNat clock).map V.int))) p (.ins t.Holder dx (hf len (n / 2 + 1) nm l clock (lo + cs.length) dn dg)) x = some o := fun x o e ne => by rw [upd_ne ne]; exact f4 _ _ e
      have hp5 : upd (upd (upd H2 p1 (.lst [.int clock])) dg (.lst ((List.replicate n.toNat clock).map V.int))) p (.ins t.Holder dx (hf len (n / 2 + 1) nm l clock (lo + cs.length) dn dg)) p = some (.ins t.Holder dx (hf len (n / 2 + 1) nm l clock (lo + cs.length) dn dg)) := upd_same
      have hdn5 := f5 _ _ hdn2 npn.symm
      have hdg5 : upd (upd (upd H2 p1 (.lst [.int clock])) dg (.lst ((List.replicate n.toNat clock).map V.int))) p (.ins t.Holder dx (hf len (n / 2 + 1) nm l clock (lo + cs.length) dn dg)) dg = some (.lst ((List.replicate n.toNat clock).map V.int)) := by rw [upd_ne npg.symm]; exact upd_same
      generalize upd (upd (upd H2 p1 (.lst [.int clock])) dg (.lst ((List.replicate n.toNat clock).map V.int))) p (.ins t.Holder dx (hf len (n / 2 + 1) nm l clock (lo + cs.length) dn dg)) = H5 at f5 hp5 hdn5 hdg5 ⊢
      try simp only [Y0, Y1, Y2, Y3, Y4, Y5, Y6, Y7, Y8, Y9, Ya, Yb, Yc, Yd, Ye, Yf, Yg, Yh, Yi, Yj, Yk, Yl, Ym, Yn, Yo, Yp, Yq, Yr, Ys, Yt, Yu, Yv, Yw, Yx, Yy, Yz, Z0, Z1, Z2, Z3, Z4, Z5, Z6, Z7, Z8, Z9, Za, Zb, Zc, Zd, Ze, Zf, Zg, Zh, Zi, Zj, Zk, Zl, Zm, Zn, Zo, Zp, Zq, Zr, Zs, Zt, Zu, Zv, Zw, Zx, Zy, Zz, V0, V1, V2, V3, V4, V5, V6, V7, V8, V9, Va, Vb, Vc, Vd, Ve, Vf, exists_eq_left', exists_eq_left, Vi, Vj, Vk, Vl, Vm, exists_and_left, Vo, and_true, true_and, if_true, if_false, decide_eq_true_eq, Vu, Vv, Vw, Vx, decide_eq_false_iff_not, reduceCtorEq, not_true_eq_false, not_false_eq_true, decide_true, decide_false]
      refine rd_Holder_life T hp5 (rd_Holder_told T hp5 ?_)
      try simp only [Y0, Y1, Y2, Y3, Y4, Y5, Y6, Y7, Y8, Y9, Ya, Yb, Yc, Yd, Ye, Yf, Yg, Yh, Yi, Yj, Yk, Yl, Ym, Yn, Yo, Yp, Yq, Yr, Ys, Yt, Yu, Yv, Yw, Yx, Yy, Yz, Z0, Z1, Z2, Z3, Z4, Z5, Z6, Z7, Z8, Z9, Za, Zb, Zc, Zd, Ze, Zf, Zg, Zh, Zi, Zj, Zk, Zl, Zm, Zn, Zo, Zp, Zq, Zr, Zs, Zt, Zu, Zv, Zw, Zx, Zy, Zz, V0, V1, V2, V3, V4, V5, V6, V7, V8, V9, Va, Vb, Vc, Vd, Ve, Vf, exists_eq_left', exists_eq_left, Vi, Vj, Vk, Vl, Vm, exists_and_left, Vo, and_true, true_and, if_true, if_false, decide_eq_true_eq, Vu, Vv, Vw, Vx, decide_eq_false_iff_not, reduceCtorEq, not_true_eq_false, not_false_eq_true, decide_true, decide_false]
      refine ⟨by decide, fun pr hpr => ?_⟩
      have f6 : ∀ x o, H5 x = some o → upd H5 pr (.tup [.int l, .int (lo + cs.length - 1)]) x = some o := fun x o e => by rw [upd_ne (ne_of_none e hpr)]; exact e
      refine z _ [p, dn, dg] ⟨fun x o e ne => f6 _ _ (f5 _ _ (f2 _ _ (f1 x o e fun y => ne (by simp [y])) fun y => ne (by simp [y])) fun y => ne (by simp [y])), fun x hx => ?_⟩ ⟨dx, dn, dg, nm, lo + cs.length, [], List.replicate n.toNat clock, rfl, f6 _ _ hp5, f6 _ _ hdn5, f6 _ _ hdg5, ?_, by omega, hm1, ⟨fun _ _ _ e => (by cases e), fun _ _ e => (by cases e)⟩, EndR.rep ⟨Int.le_refl _, by dsimp only at hf0 ⊢; omega⟩ _, ?_, by dsimp only at hf0 ⊢; omega, sm⟩ pr upd_same
      · simp only [List.mem_cons, List.not_mem_nil, or_false] at hx
        rcases hx with rfl | rfl | rfl
        · exact .inl (by simp)
        · exact .inr hdn0
        · exact .inr hdg0
      · dsimp only [List.length_nil]
        omega
      · rw [List.length_replicate]
        omega
end
end K11

set_option Elab.async false
set_option linter.all false
set_option maxRecDepth 100000
set_option maxHeartbeats 4000000
namespace K11
open PySem L2
open L2 renaming rEq_int → Y0, rNe_int → Y1, rNe_bl → Y2, rEq_str → Y3, rEq_noni → Y4, rNe_noni → Y5, tPairs → Y6, tDisp → Y7, tAsg → Y8, gName → Y9, tOp → Ya, tUn → Yb, tVar → Yc, tC → Yd, rI → Ye, rI0 → Yf, rU → Yg, tCall → Yh, tCons → Yi, tNil → Yj, tRet → Yk, tRetN → Yl, tDrop → Ym, tNext → Yn, tIfS → Yo, tTest → Yp, tChain → Yq, tChain3 → Yr, tCB → Ys, tNot → Yt, tAnd → Yu, tOr → Yv, tAndV → Yw, tOrV → Yx, tNotV → Yy, tIf → Yz, tB → Z0, tIsN → Z1, tNotN → Z2, tTup → Z3, tLst → Z4, tTru → Z5, xFld → Z6, xNotN → Z7, tAug → Z8, ipI → Z9, sFldAug_eq → Za, tDPop1 → Zb, tSortR → Zc, rEq_bl → Zd, rEq_inon → Ze, rNe_inon → Zf, xCall → Zg, xMake → Zh, xMeth → Zi, xIf → Zj, xSet → Zk, xExpr → Zl, xRet → Zm, xRaise → Zn, xRaise0 → Zo, tFld_eq → Zp, sFld_eq → Zq, tMeth_eq → Zr, tMake → Zs, tPar → Zt, tDGet_eq → Zu, sDPut_eq → Zv, tDIn_eq → Zw, tDNotIn_eq → Zx, tTrue → Zy, tComp → Zz, caps → V0, tBM → V1, cxOf_K → V2, start → V3
open _root_.List renaming map_cons → V4, map_nil → V5, length_cons → V6, length_nil → V7, replicate → V8, cons_append → Va, nil_append → Vb, append_nil → Vc, getElem?_cons_zero → Vd, getElem?_cons_succ → Ve, set_cons_zero → Vl, set_cons_succ → Vm
open _root_.Nat renaming sub_self → V9
open _root_.Option.some renaming injEq → Vf
open L2.V.int renaming injEq → Vi
open L2.V.bl renaming injEq → Vj
open L2.V.ref renaming injEq → Vk
open _root_.List.cons renaming injEq → Vo
open _root_.Bool renaming false_eq_true → Vu, not_true → Vv, not_false → Vw, not_eq_true' → Vx
/-! the keepers' list, its keepers and the two holders, as one family -/
def SF (Sa : List Addr) (pl : Addr) (S1 S2 : List Addr) (Sk : Nat → List Addr) : Nat → List Addr
  | 0 => Sa
  | 1 => [pl]
  | 2 => S1
  | 3 => S2
  | i + 4 => Sk i
def KTh (t : Adr) (ks : List Addr) (wt : Int) (Sk : Nat → List Addr) (kw : Nat → KW) (i : Nat) (H : Hp) : Prop := ∀ p, ks[i]? = some p → KAt t H p (Sk i) wt (kw i)
def TF (t : Adr) (Ta : Hp → Prop) (pl : Addr) (ks : List Addr) (wt n len : Int) (p1 : Addr) (S1 : List Addr) (h1 : HW) (p2 : Addr) (S2 : List Addr) (h2 : HW) (Sk : Nat → List Addr) (kw : Nat → KW) : Nat → Hp → Prop
  | 0 => Ta
  | 1 => fun H => H pl = some (.lst (ks.map V.ref))
  | 2 => fun H => HAt t H p1 S1 n len h1
  | 3 => fun H => HAt t H p2 S2 n len h2
  | i + 4 => KTh t ks wt Sk kw i
structure Two (t : Adr) (H : Hp) (Sa : List Addr) (Ta : Hp → Prop) (pl : Addr) (ks : List Addr) (wt n len : Int) (p1 : Addr) (S1 : List Addr) (h1 : HW) (p2 : Addr) (S2 : List Addr) (h2 : HW) (Sk : Nat → List Addr) (kw : Nat → KW) : Prop where
  fam : Fam t H (SF Sa pl S1 S2 Sk) (TF t Ta pl ks wt n len p1 S1 h1 p2 S2 h2 Sk kw)
  len : (ks.length : Int) = n
section
variable {t : Adr} {H H' : Hp} {Sa : List Addr} {Ta : Hp → Prop} {pl : Addr} {ks : List Addr} {wt n len : Int} {p1 : Addr} {S1 : List Addr} {h1 : HW} {p2 : Addr} {S2 : List Addr} {h2 : HW} {Sk : Nat → List Addr} {kw : Nat → KW} {S' : List Addr} {h' : HW} {k' : KW}
theorem Two.same (T : Two t H Sa Ta pl ks wt n len p1 S1 h1 p2 S2 h2 Sk kw) (f : Same H H') : Two t H' Sa Ta pl ks wt n len p1 S1 h1 p2 S2 h2 Sk kw := ⟨T.fam.same f, T.len⟩
theorem Two.keeper (T : Two t H Sa Ta pl ks wt n len p1 S1 h1 p2 S2 h2 Sk kw) {i : Nat} {p : Addr} (e : ks[i]? = some p) : KAt t H p (Sk i) wt (kw i) := T.fam.th (i + 4) p e
theorem Two.one (T : Two t H Sa Ta pl ks wt n len p1 S1 h1 p2 S2 h2 Sk kw) : HAt t H p1 S1 n len h1 := T.fam.th 2
theorem Two.other (T : Two t H Sa Ta pl ks wt n len p1 S1 h1 p2 S2 h2 Sk kw) : HAt t H p2 S2 n len h2 := T.fam.th 3
theorem Two.list (T : Two t H Sa Ta pl ks wt n len p1 S1 h1 p2 S2 h2 Sk kw) : H pl = some (.lst (ks.map V.ref)) := T.fam.th 1
theorem Two.put0 {T' : Hp → Prop} (T : Two t H Sa Ta pl ks wt n len p1 S1 h1 p2 S2 h2 Sk kw) (f : Fr H H' Sa S') (ft : Foot t S' T') (h : T' H') : Two t H' S' T' pl ks wt n len p1 S1 h1 p2 S2 h2 Sk kw :=
  ⟨(T.fam.step (i := 0) f ft h).as (fun i => by rcases i with _ | _ | _ | _ | i <;> rfl) (fun i => by rcases i with _ | _ | _ | _ | i <;> rfl), T.len⟩
/-- a list of its own beside a thing -/
def Beside (Ta : Hp → Prop) (p : Addr) (xs : List V) (H : Hp) : Prop := Ta H ∧ H p = some (.lst xs)
theorem Beside.foot {S : List Addr} {Ta : Hp → Prop} {p : Addr} {xs : List V} (f : Foot t S Ta) : Foot t (p :: S) (Beside Ta p xs) := by
  refine ⟨fun H h x hx => ?_, fun H H' h g gt => ⟨f.frame H H' h.1 (fun x o e hx => g x o e (List.mem_cons_of_mem _ hx)) gt, g _ _ h.2 List.mem_cons_self⟩⟩
  rcases List.mem_cons.mp hx with rfl | hx
  · exact ⟨_, h.2, by rintro (⟨_, z⟩ | ⟨_, _, _, _, _, z⟩) <;> cases z⟩
  · exact f.some H h.1 x hx
theorem Two.put1 (T : Two t H Sa Ta pl ks wt n len p1 S1 h1 p2 S2 h2 Sk kw) (f : Fr H H' S1 S') (h : HAt t H' p1 S' n len h') : Two t H' Sa Ta pl ks wt n len p1 S' h' p2 S2 h2 Sk kw :=
  ⟨(T.fam.step (i := 2) f HAt.foot h).as (fun i => by rcases i with _ | _ | _ | _ | i <;> rfl) (fun i => by rcases i with _ | _ | _ | _ | i <;> rfl), T.len⟩
theorem Two.put2 (T : Two t H Sa Ta pl ks wt n len p1 S1 h1 p2 S2 h2 Sk kw) (f : Fr H H' S2 S') (h : HAt t H' p2 S' n len h') : Two t H' Sa Ta pl ks wt n len p1 S1 h1 p2 S' h' Sk kw :=
  ⟨(T.fam.step (i := 3) f HAt.foot h).as (fun i => by rcases i with _ | _ | _ | _ | i <;> rfl) (fun i => by rcases i with _ | _ | _ | _ | i <;> rfl), T.len⟩
theorem Two.putK (T : Two t H Sa Ta pl ks wt n len p1 S1 h1 p2 S2 h2 Sk kw) {i : Nat} {p : Addr} (e : ks[i]? = some p) (f : Fr H H' (Sk i) S') (h : KAt t H' p S' wt k') : Two t H' Sa Ta pl ks wt n len p1 S1 h1 p2 S2 h2 (atS Sk i S') (atS kw i k') := by
  have ft : Foot t S' (KTh t ks wt (atS Sk i S') (atS kw i k') i) := by
    refine ⟨fun H h x hx => ?_, fun H H' h f ft p' e' => ?_⟩
    · have := h p e
      rw [atS_same] at this
      exact this.some.2 x hx
    · have := h p' e'
      rw [atS_same, atS_same] at this ⊢
      exact this.frame f ft
  have th : KTh t ks wt (atS Sk i S') (atS kw i k') i H' := fun p' e' => by
    rw [e] at e'
    cases e'
    rw [atS_same, atS_same]
    exact h
  refine ⟨(T.fam.step (i := i + 4) f ft th).as (fun j => ?_) fun j => ?_, T.len⟩
  · rcases j with _ | _ | _ | _ | j
    · exact atS_ne (by omega)
    · exact atS_ne (by omega)
    · exact atS_ne (by omega)
    · exact atS_ne (by omega)
    · by_cases ej : j = i
      · subst ej
        rw [atS_same]
        exact atS_same.symm
      · rw [atS_ne (by omega)]
        exact (atS_ne ej).symm
  · rcases j with _ | _ | _ | _ | j
    · exact atS_ne (by omega)
    · exact atS_ne (by omega)
    · exact atS_ne (by omega)
    · exact atS_ne (by omega)
    · by_cases ej : j = i
      · subst ej
        exact atS_same
      · rw [atS_ne (by omega)]
        show KTh t ks wt Sk kw j = KTh t ks wt (atS Sk i S') (atS kw i k') j
        unfold KTh
        rw [atS_ne ej, atS_ne ej]
end
/-- a keeper says yes -/
def yes (v : V) : Bool := decide (v = .bl true)
theorem due_bl {k : KW} {wt clock name : Int} {q : Addr} {a b : Int} (h : ¬ clock < k.c) : ∃ c, (due k wt 0 clock name q a b).1 = .bl c := by
  unfold due
  rw [if_neg h, if_neg (by decide), if_neg (by decide)]
  split
  · split
    · exact ⟨_, rfl⟩
    · split
      · exact ⟨_, rfl⟩
      · split <;> exact ⟨_, rfl⟩
  · exact ⟨_, rfl⟩
/-- the holder hears of them, one behind the other -/
def heard (n len : Int) (h : HW) (reading a b : Int) (ys : List Nat) : HW := ys.foldl (fun h (i : Nat) => (hdue n len h 1 reading (i : Int) a b).2) h
theorem hear_eq {n len : Int} {h : HW} {r k a b : Int} (hk : 0 ≤ k ∧ k < n) (hr : ¬ r < h.c) : (hdue n len h 1 r k a b).1 = .v .non ∧ (hdue n len h 1 r k a b).2.c = r ∧ (hdue n len h 1 r k a b).2.many = h.many ∧ (hdue n len h 1 r k a b).2.asks = h.asks ∧ (hdue n len h 1 r k a b).2.life = h.life ∧ (hdue n len h 1 r k a b).2.first = h.first ∧
    (hdue n len h 1 r k a b).2.ends = match h.asks a b with
      | some t => h.ends.set k.toNat (max (h.ends.getD k.toNat 0) (t + len))
      | none => h.ends := by
  unfold hdue
  rw [if_neg (fun y => y.2 hk), if_neg hr, if_neg (fun y => absurd y.1 (by decide)), if_neg (by decide), if_pos rfl]
  dsimp only
  cases h.asks a b with
  | none => exact ⟨rfl, rfl, rfl, rfl, rfl, rfl, rfl⟩
  | some t => exact ⟨rfl, rfl, rfl, rfl, rfl, rfl, rfl⟩
theorem heard_keeps {n len r a b : Int} : ∀ (ys : List Nat) (h : HW), h.c = r → (∀ i, i ∈ ys → (i : Int) < n) → (heard n len h r a b ys).c = r ∧ (heard n len h r a b ys).many = h.many ∧ (heard n len h r a b ys).asks = h.asks ∧ (heard n len h r a b ys).life = h.life ∧ (heard n len h r a b ys).first = h.first
  | [], h, hc, _ => ⟨hc, rfl, rfl, rfl, rfl⟩
  | i :: ys, h, hc, hy => by
    have e := hear_eq (n := n) (len := len) (h := h) (r := r) (k := (i : Int)) (a := a) (b := b) ⟨by omega, hy i List.mem_cons_self⟩ (by omega)
    have ih := heard_keeps (len := len) (a := a) (b := b) ys (hdue n len h 1 r (i : Int) a b).2 e.2.1 fun j hj => hy j (List.mem_cons_of_mem _ hj)
    show (heard n len (hdue n len h 1 r (i : Int) a b).2 r a b ys).c = r ∧ (heard n len (hdue n len h 1 r (i : Int) a b).2 r a b ys).many = h.many ∧ (heard n len (hdue n len h 1 r (i : Int) a b).2 r a b ys).asks = h.asks ∧ (heard n len (hdue n len h 1 r (i : Int) a b).2 r a b ys).life = h.life ∧ (heard n len (hdue n len h 1 r (i : Int) a b).2 r a b ys).first = h.first
    exact ⟨ih.1, ih.2.1.trans e.2.2.1, ih.2.2.1.trans e.2.2.2.1, ih.2.2.2.1.trans e.2.2.2.2.1, ih.2.2.2.2.trans e.2.2.2.2.2.1⟩
def yess (wt : Int) (kw : Nat → KW) (clock name : Int) (q : Addr) (a b : Int) (n : Nat) : List Nat := (List.range n).filter fun i => yes (due (kw i) wt 0 clock name q a b).1
theorem yess_lt {wt : Int} {kw : Nat → KW} {clock name : Int} {q : Addr} {a b : Int} {n i : Nat} (h : i ∈ yess wt kw clock name q a b n) : i < n := List.mem_range.mp (List.mem_filter.mp h).1
def sp_law_gets (t : Adr) : Sp := fun vs H Q _ => ∃ (Sa : List Addr) (Ta : Hp → Prop) (pl : Addr) (ks : List Addr) (wt n len : Int) (p1 : Addr) (S1 : List Addr) (h1 : HW) (p2 : Addr) (S2 : List Addr) (h2 : HW) (Sk : Nat → List Addr) (kw : Nat → KW) (clock name reading : Int),
  vs = [.ref pl, .int clock, .ref p2, .int name, .int reading] ∧ Two t H Sa Ta pl ks wt n len p1 S1 h1 p2 S2 h2 Sk kw ∧ 1 ≤ n ∧ n ≤ 5 ∧ 0 ≤ h2.many ∧ h2.many < 900 ∧ Small clock ∧ Small reading ∧ Small len ∧ (∀ i, i < ks.length → ¬ clock < (kw i).c) ∧ ¬ reading < h2.c ∧
  ∀ H' S2' Sk' q py, Two t H' Sa Ta pl ks wt n len p1 S1 h1 p2 S2' (heard n len (hdue n len h2 0 reading 0 0 0).2 reading h2.life h2.many (yess wt kw clock name q h2.life h2.many ks.length)) Sk' (fun i => if i < ks.length then (due (kw i) wt 0 clock name q h2.life h2.many).2 else kw i) →
    (∀ x o, H x = some o → Fx t o → H' x = some o) → H' py = some (.lst ((yess wt kw clock name q h2.life h2.many ks.length).map fun (i : Nat) => V.int (i : Int))) → Q (.ref py) H'
section
variable {P : Program} {w : World} {K : PySem.W.Frag} {mg : Str → Option Value} {base : Heap} {t : Adr}
theorem ok_law_gets (T : Txt K mg t) : FnOk P w K mg base CX0 3 t.f_law_gets t.d_law_gets ["_law_keepers", "_law_clock", "_law_holder", "_law_name", "_law_reading"] (sp_law_gets t) := by
  refine T.F_law_gets.ok sc_law_gets (fun vs H Q E h => ?_) (fun cdv A outer s H vs Q E hr h => ?_)
  · obtain ⟨Sa, Ta, pl, ks, wt, n, len, p1, S1, h1, p2, S2, h2, Sk, kw, clock, name, reading, rfl, _⟩ := h
    rfl
  · obtain ⟨Sa, Ta, pl, ks, wt, n, len, p1, S1, h1, p2, S2, h2, Sk, kw, clock, name, reading, rfl, tw, n1, n5, hm0, hm, sc, sr, sl, hc, hrd, z⟩ := h
    refine ⟨_, (jss_cons (js_set (i := 5) nc_call sc_law_gets.nd rfl lo_law_gets__law_number (je_meth bs_name rfl (by decide) (je_var (i := 2) nm__law_holder lo_law_gets__law_holder rfl) T.cl_Holder T.h_Holder_ask (ok_Holder_ask T) (hr.mono (by decide)) T.b_Holder_ask passX sx_name ns_nil (ja_cons sx_name (je_var (i := 4) nm__law_reading lo_law_gets__law_reading rfl) ja_nil)))
      (jss_cons (js_set (i := 6) nc_list sc_law_gets.nd rfl lo_law_gets__law_yes (je_lst ja_nil))
      (jss_cons (js_for PassesOwn.never rfl (ji_range1 lo_law_gets_range T.z_range sx_call (ja_cons sx_call (je_callB nm_len lo_law_gets_len jc_len T.z_len bt_len sx_name ns_nil (ja_cons sx_name (je_var (i := 0) nm__law_keepers lo_law_gets__law_keepers rfl) ja_nil)) ja_nil)) (jg_name (i := 7) sc_law_gets.nd rfl lo_law_gets__law_k) (jss_one (js_if (jt_val pl_call (je_meth bs_sub rfl (by decide) (je_ix jx_list (je_var (i := 0) nm__law_keepers lo_law_gets__law_keepers rfl) (je_var (i := 7) nm__law_k lo_law_gets__law_k rfl) (fun _ _ => rfl)) T.cl_Keeper T.h_Keeper_asked (ok_Keeper_asked T) (hr.mono (by decide)) T.b_Keeper_asked passX sx_name (ns_cons sx_name (ns_cons sx_name ns_nil)) (ja_cons sx_name (je_var (i := 1) nm__law_clock lo_law_gets__law_clock rfl) (ja_cons sx_name (je_var (i := 3) nm__law_name lo_law_gets__law_name rfl) (ja_cons sx_name (je_var (i := 5) nm__law_number lo_law_gets__law_number rfl) ja_nil))))) (jss_cons (js_expr nc_call (je_meth bs_name rfl (by decide) (je_var (i := 2) nm__law_holder lo_law_gets__law_holder rfl) T.cl_Holder T.h_Holder_hear (ok_Holder_hear T) (hr.mono (by decide)) T.b_Holder_hear passX sx_name (ns_cons sx_name (ns_cons sx_name ns_nil)) (ja_cons sx_name (je_var (i := 4) nm__law_reading lo_law_gets__law_reading rfl) (ja_cons sx_name (je_var (i := 7) nm__law_k lo_law_gets__law_k rfl) (ja_cons sx_name (je_var (i := 5) nm__law_number lo_law_gets__law_number rfl) ja_nil)))))
      (jss_one (js_expr nc_call (je_append bs_name rfl sx_name (je_var (i := 6) nm__law_yes lo_law_gets__law_yes rfl) (je_var (i := 7) nm__law_k lo_law_gets__law_k rfl))))) jss_nil)) (fun _ => rfl))
      (jss_one (js_ret (je_var (i := 6) nm__law_yes lo_law_gets__law_yes rfl)))))).h, ?_⟩
    dsimp only [L2.start, List.map_cons, List.map_nil, List.length_cons, List.length_nil, List.cons_append, List.nil_append, List.replicate]
    refine seq_step fun R k => ?_
    try simp only [Y0, Y1, Y2, Y3, Y4, Y5, Y6, Y7, Y8, Y9, Ya, Yb, Yc, Yd, Ye, Yf, Yg, Yh, Yi, Yj, Yk, Yl, Ym, Yn, Yo, Yp, Yq, Yr, Ys, Yt, Yu, Yv, Yw, Yx, Yy, Yz, Z0, Z1, Z2, Z3, Z4, Z5, Z6, Z7, Z8, Z9, Za, Zb, Zc, Zd, Ze, Zf, Zg, Zh, Zi, Zj, Zk, Zl, Zm, Zn, Zo, Zp, Zq, Zr, Zs, Zt, Zu, Zv, Zw, Zx, Zy, Zz, V0, V1, V2, V3, V4, V5, V6, V7, V8, V9, Va, Vb, Vc, Vd, Ve, Vf, exists_eq_left', exists_eq_left, Vi, Vj, Vk, Vl, Vm, exists_and_left, Vo, and_true, true_and, if_true, if_false, decide_eq_true_eq, Vu, Vv, Vw, Vx, decide_eq_false_iff_not, reduceCtorEq, not_true_eq_false, not_false_eq_true, decide_true, decide_false]
    obtain ⟨dx, fs, hp, l1, l2, _⟩ := tw.other.meth
    refine rd_meth hp l1 ⟨p2, S2, n, len, h2, reading, 0, p2, 0, 0, rfl, tw.other, n1, n5, by omega, sr, ⟨by decide, by decide⟩, sl, (fun e => absurd e (by decide)), fun HA SA fA hkA => ?_⟩
    have e0 : hdue n len h2 0 reading 0 0 0 = (.pair h2.life h2.many, (hdue n len h2 0 reading 0 0 0).2) := by
      unfold hdue
      rw [if_neg (by omega), if_neg hrd, if_neg (by omega), if_pos rfl]
    have twA := tw.put2 fA hkA
    have fxA := tw.fam.fx (i := 3) fA
    have lA : (hdue n len h2 0 reading 0 0 0).2.c = reading ∧ (hdue n len h2 0 reading 0 0 0).2.many = h2.many + 1 := by
      unfold hdue
      rw [if_neg (by omega), if_neg hrd, if_neg (by omega), if_pos rfl]
      exact ⟨rfl, rfl⟩
    rw [e0]
    generalize (hdue n len h2 0 reading 0 0 0).2 = hA at z twA lA ⊢
    intro q hq
    refine k _ _ ?_
    clear k R
    refine seq_step fun R k => ?_
    try simp only [Y0, Y1, Y2, Y3, Y4, Y5, Y6, Y7, Y8, Y9, Ya, Yb, Yc, Yd, Ye, Yf, Yg, Yh, Yi, Yj, Yk, Yl, Ym, Yn, Yo, Yp, Yq, Yr, Ys, Yt, Yu, Yv, Yw, Yx, Yy, Yz, Z0, Z1, Z2, Z3, Z4, Z5, Z6, Z7, Z8, Z9, Za, Zb, Zc, Zd, Ze, Zf, Zg, Zh, Zi, Zj, Zk, Zl, Zm, Zn, Zo, Zp, Zq, Zr, Zs, Zt, Zu, Zv, Zw, Zx, Zy, Zz, V0, V1, V2, V3, V4, V5, V6, V7, V8, V9, Va, Vb, Vc, Vd, Ve, Vf, exists_eq_left', exists_eq_left, Vi, Vj, Vk, Vl, Vm, exists_and_left, Vo, and_true, true_and, if_true, if_false, decide_eq_true_eq, Vu, Vv, Vw, Vx, decide_eq_false_iff_not, reduceCtorEq, not_true_eq_false, not_false_eq_true, decide_true, decide_false]
    refine ⟨by decide, fun py hpy => k _ _ ?_⟩
    clear k R
    have ft0 : Foot t Sa Ta := tw.fam.ft 0
    have pySa : py ∉ Sa := fun h => by
      obtain ⟨o, e, _⟩ := ft0.some HA (twA.fam.th 0) py h
      rw [hpy] at e
      cases e
    have sB := same_upd (o := .lst []) hpy
    have twB : Two t (upd HA py (.lst [])) (py :: Sa) (Beside Ta py []) pl ks wt n len p1 S1 h1 p2 SA hA Sk kw := by
      refine twA.put0 ⟨fun x o e _ => sB x o e, fun x hx => ?_⟩ (Beside.foot ft0) ⟨ft0.frame _ _ (twA.fam.th 0) (fun x o e _ => sB x o e) fun x o e _ => sB x o e, upd_same⟩
      rcases List.mem_cons.mp hx with rfl | hx
      · exact .inr hpy
      · exact .inl hx
    have hqB := sB _ _ hq
    have fxB : ∀ x o, H x = some o → Fx t o → upd HA py (.lst []) x = some o := fun x o e fo => sB _ _ (fxA x o e fo)
    generalize upd HA py (.lst []) = HB at twB hqB fxB ⊢
    clear sB hpy twA fxA hq fA hkA tw hp hrd
    refine seq_step fun R k => ?_
    refine for_step fun B kB => ?_
    try simp only [Y0, Y1, Y2, Y3, Y4, Y5, Y6, Y7, Y8, Y9, Ya, Yb, Yc, Yd, Ye, Yf, Yg, Yh, Yi, Yj, Yk, Yl, Ym, Yn, Yo, Yp, Yq, Yr, Ys, Yt, Yu, Yv, Yw, Yx, Yy, Yz, Z0, Z1, Z2, Z3, Z4, Z5, Z6, Z7, Z8, Z9, Za, Zb, Zc, Zd, Ze, Zf, Zg, Zh, Zi, Zj, Zk, Zl, Zm, Zn, Zo, Zp, Zq, Zr, Zs, Zt, Zu, Zv, Zw, Zx, Zy, Zz, V0, V1, V2, V3, V4, V5, V6, V7, V8, V9, Va, Vb, Vc, Vd, Ve, Vf, exists_eq_left', exists_eq_left, Vi, Vj, Vk, Vl, Vm, exists_and_left, Vo, and_true, true_and, if_true, if_false, decide_eq_true_eq, Vu, Vv, Vw, Vx, decide_eq_false_iff_not, reduceCtorEq, not_true_eq_false, not_false_eq_true, decide_true, decide_false, iRng1]
    refine rd_lenL (SqL.of twB.list) ?_
    rw [List.length_map]
    have hln := twB.len
    refine ⟨_, rfl, by omega, by omega, kB _ _ ?_⟩
    clear kB B
    refine for_range (lo := 0) (fun i σ H6 => ∃ (S2 : List Addr) (Sk' : Nat → List Addr) (v7 : Option V), σ = [some (.ref pl), some (.int clock), some (.ref p2), some (.int name), some (.int reading), some (.ref q), some (.ref py), v7] ∧
      Two t H6 (py :: Sa) (Beside Ta py ((yess wt kw clock name q h2.life h2.many i).map fun (i : Nat) => V.int (i : Int))) pl ks wt n len p1 S1 h1 p2 S2 (heard n len hA reading h2.life h2.many (yess wt kw clock name q h2.life h2.many i)) Sk' (fun j => if j < i then (due (kw j) wt 0 clock name q h2.life h2.many).2 else kw j) ∧
      H6 q = some (.tup [.int h2.life, .int h2.many]) ∧ ∀ x o, H x = some o → Fx t o → H6 x = some o) ?_ ?_ ?_
    · refine ⟨SA, Sk, _, rfl, ?_, hqB, fxB⟩
      have e1 : (fun j => if j < 0 then (due (kw j) wt 0 clock name q h2.life h2.many).2 else kw j) = kw := funext fun j => if_neg (by omega)
      rw [e1]
      exact twB
    · rintro i σ H6 hi ⟨S6, Sk6, v7, rfl, tw6, hq6, fx6⟩
      clear twB hqB fxB k
      dsimp only [gName]
      have hlt : i < ks.length := by omega
      have eks : ks[i]? = some ks[i] := List.getElem?_eq_getElem hlt
      have hk6 := tw6.keeper eks
      rw [if_neg (by omega)] at hk6
      try simp only [Y0, Y1, Y2, Y3, Y4, Y5, Y6, Y7, Y8, Y9, Ya, Yb, Yc, Yd, Ye, Yf, Yg, Yh, Yi, Yj, Yk, Yl, Ym, Yn, Yo, Yp, Yq, Yr, Ys, Yt, Yu, Yv, Yw, Yx, Yy, Yz, Z0, Z1, Z2, Z3, Z4, Z5, Z6, Z7, Z8, Z9, Za, Zb, Zc, Zd, Ze, Zf, Zg, Zh, Zi, Zj, Zk, Zl, Zm, Zn, Zo, Zp, Zq, Zr, Zs, Zt, Zu, Zv, Zw, Zx, Zy, Zz, V0, V1, V2, V3, V4, V5, V6, V7, V8, V9, Va, Vb, Vc, Vd, Ve, Vf, exists_eq_left', exists_eq_left, Vi, Vj, Vk, Vl, Vm, exists_and_left, Vo, and_true, true_and, if_true, if_false, decide_eq_true_eq, Vu, Vv, Vw, Vx, decide_eq_false_iff_not, reduceCtorEq, not_true_eq_false, not_false_eq_true, decide_true, decide_false]
      refine rd_ixL (SqL.of tw6.list) (v := .ref ks[i]) ?_ ?_
      · rw [Int.zero_add]
        refine atI_nat ?_
        rw [List.getElem?_map, eks]
        rfl
      obtain ⟨dx, fs, hp, m1, _⟩ := hk6.meth
      refine rd_meth hp m1 ⟨ks[i], Sk6 i, wt, kw i, clock, name, q, h2.life, h2.many, rfl, hk6, sc, (fun _ => hq6), fun H7 S7 f7 hk7 => ?_⟩
      obtain ⟨b, eb⟩ := due_bl (k := kw i) (wt := wt) (name := name) (q := q) (a := h2.life) (b := h2.many) (hc i hlt)
      have tw7 := tw6.putK eks f7 hk7
      have fx7 := tw6.fam.fx (i := i + 4) f7
      have hq7 := fx7 _ _ hq6 fx_tup
      have ekw : atS (fun j => if j < i then (due (kw j) wt 0 clock name q h2.life h2.many).2 else kw j) i (due (kw i) wt 0 clock name q h2.life h2.many).2 = fun j => if j < i + 1 then (due (kw j) wt 0 clock name q h2.life h2.many).2 else kw j := by
        funext j
        by_cases ej : j = i
        · subst ej
          rw [atS_same, if_pos (by omega)]
        · rw [atS_ne ej]
          by_cases lj : j < i
          · rw [if_pos lj, if_pos (by omega)]
          · rw [if_neg lj, if_neg (by omega)]
      rw [ekw] at tw7
      have ey : yess wt kw clock name q h2.life h2.many (i + 1) = yess wt kw clock name q h2.life h2.many i ++ if b = true then [i] else [] := by
        unfold yess
        rw [List.range_succ, List.filter_append]
        congr 1
        cases b with
        | true => simp [yes, eb]
        | false => simp [yes, eb]
      rw [eb]
      refine ⟨b, rfl, ?_⟩
      cases b with
      | false =>
        rw [if_neg (by decide)]
        rw [if_neg (by decide), List.append_nil] at ey
        rw [ey]
        exact ⟨S6, _, tw7, hq7, fun x o e fo => fx7 _ _ (fx6 x o e fo) fo⟩
      | true =>
        rw [if_pos rfl]
        rw [if_pos rfl] at ey
        refine seq_step fun R7 k7 => ?_
        try simp only [Y0, Y1, Y2, Y3, Y4, Y5, Y6, Y7, Y8, Y9, Ya, Yb, Yc, Yd, Ye, Yf, Yg, Yh, Yi, Yj, Yk, Yl, Ym, Yn, Yo, Yp, Yq, Yr, Ys, Yt, Yu, Yv, Yw, Yx, Yy, Yz, Z0, Z1, Z2, Z3, Z4, Z5, Z6, Z7, Z8, Z9, Za, Zb, Zc, Zd, Ze, Zf, Zg, Zh, Zi, Zj, Zk, Zl, Zm, Zn, Zo, Zp, Zq, Zr, Zs, Zt, Zu, Zv, Zw, Zx, Zy, Zz, V0, V1, V2, V3, V4, V5, V6, V7, V8, V9, Va, Vb, Vc, Vd, Ve, Vf, exists_eq_left', exists_eq_left, Vi, Vj, Vk, Vl, Vm, exists_and_left, Vo, and_true, true_and, if_true, if_false, decide_eq_true_eq, Vu, Vv, Vw, Vx, decide_eq_false_iff_not, reduceCtorEq, not_true_eq_false, not_false_eq_true, decide_true, decide_false]
        have kp := heard_keeps (n := n) (len := len) (a := h2.life) (b := h2.many) (yess wt kw clock name q h2.life h2.many i) hA lA.1 fun j hj => by
          have := yess_lt hj
          omega
        have he := hear_eq (n := n) (len := len) (h := heard n len hA reading h2.life h2.many (yess wt kw clock name q h2.life h2.many i)) (r := reading) (k := (i : Int)) (a := h2.life) (b := h2.many) ⟨by omega, by omega⟩ (by omega)
        obtain ⟨dx, fs, hp, _, l2, _⟩ := tw7.other.meth
        refine rd_meth hp l2 ⟨p2, S6, n, len, _, reading, 0 + (i : Int), q, h2.life, h2.many, rfl, tw7.other, n1, n5, by omega, sr, ⟨by omega, by omega⟩, sl, (fun _ => hq7), fun H8 S8 f8 hk8 => ?_⟩
        rw [Int.zero_add] at hk8 ⊢
        rw [he.1]
        refine k7 _ _ ?_
        clear k7 R7
        have tw8 := tw7.put2 f8 hk8
        have fx8 := tw7.fam.fx (i := 3) f8
        have hq8 := fx8 _ _ hq7 fx_tup
        have hpy8 := (tw8.fam.th 0).2
        try simp only [Y0, Y1, Y2, Y3, Y4, Y5, Y6, Y7, Y8, Y9, Ya, Yb, Yc, Yd, Ye, Yf, Yg, Yh, Yi, Yj, Yk, Yl, Ym, Yn, Yo, Yp, Yq, Yr, Ys, Yt, Yu, Yv, Yw, Yx, Yy, Yz, Z0, Z1, Z2, Z3, Z4, Z5, Z6, Z7, Z8, Z9, Za, Zb, Zc, Zd, Ze, Zf, Zg, Zh, Zi, Zj, Zk, Zl, Zm, Zn, Zo, Zp, Zq, Zr, Zs, Zt, Zu, Zv, Zw, Zx, Zy, Zz, V0, V1, V2, V3, V4, V5, V6, V7, V8, V9, Va, Vb, Vc, Vd, Ve, Vf, exists_eq_left', exists_eq_left, Vi, Vj, Vk, Vl, Vm, exists_and_left, Vo, and_true, true_and, if_true, if_false, decide_eq_true_eq, Vu, Vv, Vw, Vx, decide_eq_false_iff_not, reduceCtorEq, not_true_eq_false, not_false_eq_true, decide_true, decide_false]
        refine ⟨ty_list hpy8, py, _, _, rfl, rfl, hpy8, ?_, ?_⟩
        · have l1 := List.length_filter_le (fun i => yes (due (kw i) wt 0 clock name q h2.life h2.many).1) (List.range i)
          rw [List.length_range] at l1
          rw [List.length_map]
          refine small1000 ?_
          unfold yess
          omega
        · have eh : heard n len hA reading h2.life h2.many (yess wt kw clock name q h2.life h2.many (i + 1)) = (hdue n len (heard n len hA reading h2.life h2.many (yess wt kw clock name q h2.life h2.many i)) 1 reading (i : Int) h2.life h2.many).2 := by
            rw [ey]
            unfold heard
            rw [List.foldl_append]
            rfl
          have em : ((yess wt kw clock name q h2.life h2.many (i + 1)).map fun (i : Nat) => V.int (i : Int)) = ((yess wt kw clock name q h2.life h2.many i).map fun (i : Nat) => V.int (i : Int)) ++ [.int (i : Int)] := by
            rw [ey, List.map_append]
            rfl
          rw [eh, em]
          have ne : ∀ x o, H8 x = some o → Fx t o → x ≠ py := fun x o e fo y => by
            rw [y, hpy8] at e
            cases e
            rcases fo with ⟨_, z⟩ | ⟨_, _, _, _, _, z⟩ <;> cases z
          refine ⟨S8, _, tw8.put0 ⟨fun x o e nx => by rw [upd_ne fun y => nx (by rw [y]; exact List.mem_cons_self)]; exact e, fun x hx => .inl hx⟩ (Beside.foot ft0) ⟨?_, upd_same⟩, by rw [upd_ne (ne _ _ hq8 fx_tup)]; exact hq8, fun x o e fo => ?_⟩
          · refine ft0.frame H8 _ (tw8.fam.th 0).1 (fun x o e hx => ?_) fun x o e fo => by rw [upd_ne (ne _ _ e fo)]; exact e
            rw [upd_ne fun y => ?_]
            · exact e
            · rw [y] at hx
              exact pySa hx
          · have e8 := fx8 _ _ (fx7 _ _ (fx6 x o e fo) fo) fo
            rw [upd_ne (ne _ _ e8 fo)]
            exact e8
    · rintro σ H6 ⟨S6, Sk6, v7, rfl, tw6, hq6, fx6⟩
      refine k _ _ ?_
      try simp only [Y0, Y1, Y2, Y3, Y4, Y5, Y6, Y7, Y8, Y9, Ya, Yb, Yc, Yd, Ye, Yf, Yg, Yh, Yi, Yj, Yk, Yl, Ym, Yn, Yo, Yp, Yq, Yr, Ys, Yt, Yu, Yv, Yw, Yx, Yy, Yz, Z0, Z1, Z2, Z3, Z4, Z5, Z6, Z7, Z8, Z9, Za, Zb, Zc, Zd, Ze, Zf, Zg, Zh, Zi, Zj, Zk, Zl, Zm, Zn, Zo, Zp, Zq, Zr, Zs, Zt, Zu, Zv, Zw, Zx, Zy, Zz, V0, V1, V2, V3, V4, V5, V6, V7, V8, V9, Va, Vb, Vc, Vd, Ve, Vf, exists_eq_left', exists_eq_left, Vi, Vj, Vk, Vl, Vm, exists_and_left, Vo, and_true, true_and, if_true, if_false, decide_eq_true_eq, Vu, Vv, Vw, Vx, decide_eq_false_iff_not, reduceCtorEq, not_true_eq_false, not_false_eq_true, decide_true, decide_false]
      refine z H6 S6 Sk6 q py ?_ fx6 (tw6.fam.th 0).2
      exact tw6.put0 ⟨fun x o e _ => e, fun x hx => .inl (List.mem_cons_of_mem _ hx)⟩ ft0 (tw6.fam.th 0).1
end
end K11

set_option Elab.async false
set_option linter.all false
set_option maxRecDepth 100000
set_option maxHeartbeats 4000000
namespace K11
open PySem L2
open L2 renaming rEq_int → Y0, rNe_int → Y1, rNe_bl → Y2, rEq_str → Y3, rEq_noni → Y4, rNe_noni → Y5, tPairs → Y6, tDisp → Y7, tAsg → Y8, gName → Y9, tOp → Ya, tUn → Yb, tVar → Yc, tC → Yd, rI → Ye, rI0 → Yf, rU → Yg, tCall → Yh, tCons → Yi, tNil → Yj, tRet → Yk, tRetN → Yl, tDrop → Ym, tNext → Yn, tIfS → Yo, tTest → Yp, tChain → Yq, tChain3 → Yr, tCB → Ys, tNot → Yt, tAnd → Yu, tOr → Yv, tAndV → Yw, tOrV → Yx, tNotV → Yy, tIf → Yz, tB → Z0, tIsN → Z1, tNotN → Z2, tTup → Z3, tLst → Z4, tTru → Z5, xFld → Z6, xNotN → Z7, tAug → Z8, ipI → Z9, sFldAug_eq → Za, tDPop1 → Zb, tSortR → Zc, rEq_bl → Zd, rEq_inon → Ze, rNe_inon → Zf, xCall → Zg, xMake → Zh, xMeth → Zi, xIf → Zj, xSet → Zk, xExpr → Zl, xRet → Zm, xRaise → Zn, xRaise0 → Zo, tFld_eq → Zp, sFld_eq → Zq, tMeth_eq → Zr, tMake → Zs, tPar → Zt, tDGet_eq → Zu, sDPut_eq → Zv, tDIn_eq → Zw, tDNotIn_eq → Zx, tTrue → Zy, tComp → Zz, caps → V0, tBM → V1, cxOf_K → V2, start → V3
open _root_.List renaming map_cons → V4, map_nil → V5, length_cons → V6, length_nil → V7, replicate → V8, cons_append → Va, nil_append → Vb, append_nil → Vc, getElem?_cons_zero → Vd, getElem?_cons_succ → Ve, set_cons_zero → Vl, set_cons_succ → Vm
open _root_.Nat renaming sub_self → V9
open _root_.Option.some renaming injEq → Vf
open L2.V.int renaming injEq → Vi
open L2.V.bl renaming injEq → Vj
open L2.V.ref renaming injEq → Vk
open _root_.List.cons renaming injEq → Vo
open _root_.Bool renaming false_eq_true → Vu, not_true → Vv, not_false → Vw, not_eq_true' → Vx
/-! ends by places -/
theorem map_range_set {f : Nat → Int} {i : Nat} {v : Int} : ∀ {n : Nat}, ((List.range n).map f).set i v = (List.range n).map fun j => if j = i then v else f j := fun {n} => by
  refine List.ext_getElem (by simp) fun j h1 h2 => ?_
  rw [List.getElem_set]
  simp only [List.getElem_map, List.getElem_range]
  by_cases e : i = j
  · subst e; simp
  · rw [if_neg e, if_neg fun y => e y.symm]
theorem map_range_getD {f : Nat → Int} {i n : Nat} (h : i < n) : ((List.range n).map f).getD i 0 = f i := by
  rw [List.getD_eq_getElem?_getD, List.getElem?_map, List.getElem?_range h]
  rfl
theorem rep_range {c : Int} {n : Nat} : List.replicate n c = (List.range n).map fun _ => c := by
  refine List.ext_getElem (by simp) fun j h1 h2 => ?_
  simp
theorem heard_ends {n len r a b x : Int} {nn : Nat} (hn : (nn : Int) = n) : ∀ (ys : List Nat) (h : HW) (f : Nat → Int), h.c = r → (∀ i, i ∈ ys → i < nn) → h.asks a b = some x → h.ends = (List.range nn).map f →
    heard n len h r a b ys = { h with ends := (List.range nn).map fun i => if i ∈ ys then max (f i) (x + len) else f i }
  | [], h, f, hc, hy, ha, he => by
    show h = _
    cases h
    cases he
    simp
  | i :: ys, h, f, hc, hy, ha, he => by
    have hi := hy i List.mem_cons_self
    have e := hdue_hear (n := n) (len := len) (h := h) (clock := r) (keeper := (i : Int)) (a := a) (b := b) ⟨by omega, by omega⟩ (by omega)
    show heard n len (hdue n len h 1 r (i : Int) a b).2 r a b ys = _
    rw [e, ha]
    dsimp only
    rw [heard_ends (len := len) (r := r) hn ys (HW.mk r h.first h.life h.many h.asks (h.ends.set ((i : Int).toNat) (max (h.ends.getD ((i : Int).toNat) 0) (x + len)))) (fun j => if j = i then max (f i) (x + len) else f j) rfl (fun j hj => hy j (List.mem_cons_of_mem _ hj)) ha (by
      dsimp only
      rw [he, Int.toNat_natCast, map_range_getD hi, map_range_set])]
    cases h
    cases hc
    dsimp only
    congr 1
    refine List.map_congr_left fun j hj => ?_
    by_cases e1 : j = i
    · subst e1
      rw [if_pos List.mem_cons_self]
      by_cases e2 : j ∈ ys
      · rw [if_pos e2, if_pos rfl]
        omega
      · rw [if_neg e2, if_pos rfl]
    · rw [if_neg e1]
      by_cases e2 : j ∈ ys
      · rw [if_pos e2, if_pos (List.mem_cons_of_mem _ e2)]
      · rw [if_neg e2, if_neg fun y => (List.mem_cons.mp y).elim e1 e2]
theorem good_f {c fi l m clock : Int} {as : Int → Int → Option Int} {nn : Nat} {f : Nat → Int} : goodE ⟨c, fi, l, m, as, (List.range nn).map f⟩ clock = ((List.range nn).filter fun i => decide (clock < f i)).map f := by
  unfold goodE
  dsimp only
  rw [List.filter_map]
  rfl
theorem holds_f {n c fi l m clock : Int} {as : Int → Int → Option Int} {nn k : Nat} {f : Nat → Int} (hk : ((List.range nn).filter fun i => decide (clock < f i)).length = k) : holdsB n ⟨c, fi, l, m, as, (List.range nn).map f⟩ clock = decide (n < 2 * (k : Int)) := by
  unfold holdsB
  rw [good_f, List.length_map, hk]
theorem filter_lt {p : Nat → Bool} {k : Nat} : ∀ {n : Nat}, k ≤ n → (∀ i, i < n → (p i = true ↔ i < k)) → (List.range n).filter p = List.range k
  | 0, hk, h => by
    obtain rfl : k = 0 := by omega
    rfl
  | n + 1, hk, h => by
    rw [List.range_succ, List.filter_append]
    by_cases e : k = n + 1
    · subst e
      rw [filter_lt (k := n) (Nat.le_refl n) fun i hi => ⟨fun _ => hi, fun _ => (h i (by omega)).mpr (by omega)⟩, List.filter_cons_of_pos ((h n (by omega)).mpr (by omega)), List.range_succ]
      rfl
    · rw [filter_lt (by omega) fun i hi => h i (by omega), List.filter_cons_of_neg (by rw [h n (by omega)]; omega)]
      exact List.append_nil _
theorem filter_ge {p : Nat → Bool} {k : Nat} : ∀ {n : Nat}, k ≤ n → (∀ i, i < n → (p i = true ↔ k ≤ i)) → (List.range n).filter p = (List.range (n - k)).map fun i => k + i
  | 0, hk, h => by
    obtain rfl : k = 0 := by omega
    rfl
  | n + 1, hk, h => by
    rw [List.range_succ, List.filter_append]
    by_cases e : k = n + 1
    · subst e
      rw [List.filter_eq_nil_iff.mpr fun i hi => by rw [h i (by have := List.mem_range.mp hi; omega)]; have := List.mem_range.mp hi; omega, List.filter_cons_of_neg (by rw [h n (by omega)]; omega), Nat.sub_self]
      rfl
    · rw [filter_ge (by omega) fun i hi => h i (by omega), List.filter_cons_of_pos ((h n (by omega)).mpr (by omega)), show n + 1 - k = (n - k) + 1 by omega, List.range_succ, List.map_append]
      show _ ++ [n] = _ ++ [k + (n - k)]
      rw [show k + (n - k) = n by omega]
theorem all_end {g : List Int} {v : Int} {i : Nat} (h : ∀ x ∈ g, x = v) (hi : i < g.length) : (srt g).getD i 0 = v := by
  have pm : (srt g).Perm g := List.mergeSort_perm _ _
  have hl : i < (srt g).length := by rw [pm.length_eq]; exact hi
  rw [List.getD_eq_getElem?_getD, List.getElem?_eq_getElem hl]
  exact h _ (pm.mem_iff.mp (List.getElem_mem hl))
/-! a holder of life 0, its ends by places -/
def hst (c fi m : Int) (as : Int → Int → Option Int) (nn : Nat) (f : Nat → Int) : HW := ⟨c, fi, 0, m, as, (List.range nn).map f⟩
section
variable {n len c fi m clock kk a b x : Int} {as : Int → Int → Option Int} {nn k : Nat} {f : Nat → Int}
theorem hst_ask (h : ¬ clock < c) : hdue n len (hst c fi m as nn f) 0 clock kk a b = (.pair 0 m, hst clock fi (m + 1) (fun x y => if x = 0 ∧ y = m then some clock else as x y) nn f) := hdue_ask h
theorem hst_hear (hn : (nn : Int) = n) (hk : k < nn) (h : ¬ clock < c) (ha : as a b = some x) : hdue n len (hst c fi m as nn f) 1 clock (k : Int) a b = (.v .non, hst clock fi m as nn fun j => if j = k then max (f k) (x + len) else f j) := by
  rw [hdue_hear ⟨by omega, by omega⟩ h]
  unfold hst
  dsimp only
  rw [ha]
  dsimp only
  rw [Int.toNat_natCast, map_range_getD hk, map_range_set]
theorem hst_holds (h : ¬ clock < c) (hk : ((List.range nn).filter fun i => decide (clock < f i)).length = k) : hdue n len (hst c fi m as nn f) 2 clock kk a b = (.v (.bl (decide (n < 2 * (k : Int)))), hst clock fi m as nn f) := by
  rw [hdue_holds h]
  unfold hst
  rw [holds_f hk]
theorem hst_until {v : Int} (h : ¬ clock < c) (hk : ((List.range nn).filter fun i => decide (clock < f i)).length = k) (h2 : n < 2 * (k : Int)) (h0 : 1 ≤ n) (hv : ∀ i, i < nn → clock < f i → f i = v) : hdue n len (hst c fi m as nn f) 3 clock kk a b = (.v (.int v), hst clock fi m as nn f) := by
  rw [hdue_until h]
  unfold hst
  rw [holds_f hk, if_pos (decide_eq_true h2), all_end (v := v)]
  · intro y hy
    rw [good_f] at hy
    obtain ⟨i, hi, rfl⟩ := List.mem_map.mp hy
    obtain ⟨h3, h4⟩ := List.mem_filter.mp hi
    exact hv i (List.mem_range.mp h3) (of_decide_eq_true h4)
  · rw [good_f, List.length_map, hk]
    omega
theorem hst_free (hn : (nn : Int) = n) (h : ¬ clock < c) (hm : ¬ m = 0) : hdue n len (hst c fi m as nn f) 4 clock kk a b = (.pair 0 (m - 1), hst clock fi m (fun _ _ => none) nn fun _ => fi) := by
  rw [hdue_free h hm]
  unfold hst
  dsimp only
  rw [show n.toNat = nn by omega, rep_range]
theorem hst_heard {ys : List Nat} (hn : (nn : Int) = n) (hy : ∀ i, i ∈ ys → i < nn) (ha : as a b = some x) : heard n len (hst c fi m as nn f) c a b ys = hst c fi m as nn fun i => if i ∈ ys then max (f i) (x + len) else f i := heard_ends hn ys _ f rfl hy ha rfl
theorem hst_new {kn : Int} (hn : (nn : Int) = kn) : (⟨c, c, 0, 0, fun _ _ => none, List.replicate kn.toNat c⟩ : HW) = hst c c 0 (fun _ _ => none) nn fun _ => c := by
  unfold hst
  rw [show kn.toNat = nn by omega, rep_range]
end
/-! keepers, way by way -/
section
variable {wt c u clock name a b : Int} {q : Addr} {l : Let} {st : Option Let}
theorem due_over (h : ¬ clock < c) (h2 : ¬ clock < u) : due ⟨c, u, st⟩ wt 0 clock name q a b = (.bl true, ⟨clock, clock + wt, some ⟨name, q, a, b⟩⟩) := by
  unfold due
  rw [if_neg h, if_neg (by decide), if_neg (by decide), if_neg h2]
theorem due_other (h : ¬ clock < c) (h2 : clock < u) (hn : l.name ≠ name) : due ⟨c, u, some l⟩ wt 0 clock name q a b = (.bl false, ⟨clock, u, some l⟩) := by
  unfold due
  rw [if_neg h, if_neg (by decide), if_neg (by decide), if_pos h2]
  dsimp only
  rw [if_pos (.inl hn)]
theorem due_newer (h : ¬ clock < c) (h2 : clock < u) (hn : l.name = name) (h3 : ¬ ltN a b l.a l.b) (h4 : ¬ (a = l.a ∧ b = l.b)) : due ⟨c, u, some l⟩ wt 0 clock name q a b = (.bl true, ⟨clock, clock + wt, some ⟨name, q, a, b⟩⟩) := by
  unfold due
  rw [if_neg h, if_neg (by decide), if_neg (by decide), if_pos h2]
  dsimp only
  rw [if_neg (fun y => y.elim (fun z => z hn) h3), if_neg h4]
theorem due_let (h : ¬ clock < c) (h2 : clock < u) : due ⟨c, u, some l⟩ wt 2 clock name q a b = (.int l.name, ⟨clock, u, some l⟩) := by
  unfold due
  rw [if_neg h, if_pos rfl, if_pos h2]
  rfl
theorem due_freed (h : ¬ clock < c) (hn : l.name = name) (h3 : ¬ ltN a b l.a l.b) : due ⟨c, u, some l⟩ wt 1 clock name q a b = (.non, ⟨clock, min u clock, some l⟩) := by
  unfold due
  rw [if_neg h, if_neg (by decide), if_pos rfl]
  dsimp only
  rw [if_pos ⟨hn, h3⟩]
theorem due_freed_other (h : ¬ clock < c) (hn : l.name ≠ name) : due ⟨c, u, some l⟩ wt 1 clock name q a b = (.non, ⟨clock, u, some l⟩) := by
  unfold due
  rw [if_neg h, if_neg (by decide), if_pos rfl]
  dsimp only
  rw [if_neg fun y => hn y.1]
end
theorem Two.alike {t : Adr} {H : Hp} {Sa : List Addr} {Ta : Hp → Prop} {pl : Addr} {ks : List Addr} {wt n len : Int} {p1 : Addr} {S1 : List Addr} {h1 : HW} {p2 : Addr} {S2 : List Addr} {h2 : HW} {Sk : Nat → List Addr} {kw kw' : Nat → KW}
    (T : Two t H Sa Ta pl ks wt n len p1 S1 h1 p2 S2 h2 Sk kw) (h : ∀ i, i < ks.length → kw i = kw' i) : Two t H Sa Ta pl ks wt n len p1 S1 h1 p2 S2 h2 Sk kw' := by
  refine ⟨T.fam.as (fun _ => rfl) fun i => ?_, T.len⟩
  rcases i with _ | _ | _ | _ | i
  · rfl
  · rfl
  · rfl
  · rfl
  · show KTh t ks wt Sk kw i = KTh t ks wt Sk kw' i
    unfold KTh
    by_cases hi : i < ks.length
    · rw [h i hi]
    · rw [List.getElem?_eq_none (by omega)]
      funext H
      exact propext ⟨fun _ p e => (by cases e), fun _ p e => (by cases e)⟩
theorem range_ints {n : Nat} {k : Int} (h : (n : Int) = k) : ((List.range n).map fun (i : Nat) => (i : Int)) = rngL 0 (k - 0).toNat := by
  unfold rngL
  rw [show (k - 0).toNat = n by omega]
  refine List.map_congr_left fun i _ => ?_
  omega
theorem range_from {n k : Nat} {kn kk : Int} (h1 : (n : Int) = kn) (h2 : (k : Int) = kk) : (((List.range (n - k)).map fun i => k + i).map fun (i : Nat) => (i : Int)) = rngL kk (kn - kk).toNat := by
  unfold rngL
  rw [show (kn - kk).toNat = n - k by omega, List.map_map]
  refine List.map_congr_left fun i _ => ?_
  show ((k + i : Nat) : Int) = kk + (i : Int)
  omega
theorem cnt {nn k : Nat} {clock : Int} {f : Nat → Int} (hk : k ≤ nn) (h : ∀ i, i < nn → (clock < f i ↔ i < k)) : ((List.range nn).filter fun i => decide (clock < f i)).length = k := by
  rw [filter_lt hk fun i hi => by rw [decide_eq_true_iff]; exact h i hi, List.length_range]
theorem cnt_ge {nn k : Nat} {clock : Int} {f : Nat → Int} (hk : k ≤ nn) (h : ∀ i, i < nn → (clock < f i ↔ k ≤ i)) : ((List.range nn).filter fun i => decide (clock < f i)).length = nn - k := by
  rw [filter_ge hk fun i hi => by rw [decide_eq_true_iff]; exact h i hi, List.length_map, List.length_range]
section
variable {t : Adr} {Q : VK} {E : XK} {H : Hp}
theorem out_bl {b : Bool} (h : Q (.bl b) H) : Out t Q E H (.v (.bl b)) := h
theorem out_int {i : Int} (h : Q (.int i) H) : Out t Q E H (.v (.int i)) := h
theorem out_non (h : Q .non H) : Out t Q E H (.v .non) := h
theorem out_pair {a b : Int} (h : ∀ r, H r = some (.tup [.int a, .int b]) → Q (.ref r) H) : Out t Q E H (.pair a b) := h
theorem outk_bl {b : Bool} (h : Q (.bl b) H) : OutK t Q E H (.bl b) := h
theorem outk_int {i : Int} (h : Q (.int i) H) : OutK t Q E H (.int i) := h
theorem outk_non (h : Q .non H) : OutK t Q E H .non := h
end
theorem hst_congr {c fi m : Int} {as : Int → Int → Option Int} {nn : Nat} {f f' : Nat → Int} (h : ∀ i, i < nn → f i = f' i) : hst c fi m as nn f = hst c fi m as nn f' := by
  unfold hst
  rw [List.map_congr_left fun i hi => h i (List.mem_range.mp hi)]
end K11

set_option Elab.async false
set_option linter.all false
set_option maxRecDepth 100000
set_option maxHeartbeats 4000000
namespace K11
open PySem L2
open L2 renaming rEq_int → Y0, rNe_int → Y1, rNe_bl → Y2, rEq_str → Y3, rEq_noni → Y4, rNe_noni → Y5, tPairs → Y6, tDisp → Y7, tAsg → Y8, gName → Y9, tOp → Ya, tUn → Yb, tVar → Yc, tC → Yd, rI → Ye, rI0 → Yf, rU → Yg, tCall → Yh, tCons → Yi, tNil → Yj, tRet → Yk, tRetN → Yl, tDrop → Ym, tNext → Yn, tIfS → Yo, tTest → Yp, tChain → Yq, tChain3 → Yr, tCB → Ys, tNot → Yt, tAnd → Yu, tOr → Yv, tAndV → Yw, tOrV → Yx, tNotV → Yy, tIf → Yz, tB → Z0, tIsN → Z1, tNotN → Z2, tTup → Z3, tLst → Z4, tTru → Z5, xFld → Z6, xNotN → Z7, tAug → Z8, ipI → Z9, sFldAug_eq → Za, tDPop1 → Zb, tSortR → Zc, rEq_bl → Zd, rEq_inon → Ze, rNe_inon → Zf, xCall → Zg, xMake → Zh, xMeth → Zi, xIf → Zj, xSet → Zk, xExpr → Zl, xRet → Zm, xRaise → Zn, xRaise0 → Zo, tFld_eq → Zp, sFld_eq → Zq, tMeth_eq → Zr, tMake → Zs, tPar → Zt, tDGet_eq → Zu, sDPut_eq → Zv, tDIn_eq → Zw, tDNotIn_eq → Zx, tTrue → Zy, tComp → Zz, caps → V0, tBM → V1, cxOf_K → V2, start → V3
open _root_.List renaming map_cons → V4, map_nil → V5, length_cons → V6, length_nil → V7, replicate → V8, cons_append → Va, nil_append → Vb, append_nil → Vc, getElem?_cons_zero → Vd, getElem?_cons_succ → Ve, set_cons_zero → Vl, set_cons_succ → Vm
open _root_.Nat renaming sub_self → V9
open _root_.Option.some renaming injEq → Vf
open L2.V.int renaming injEq → Vi
open L2.V.bl renaming injEq → Vj
open L2.V.ref renaming injEq → Vk
open _root_.List.cons renaming injEq → Vo
open _root_.Bool renaming false_eq_true → Vu, not_true → Vv, not_false → Vw, not_eq_true' → Vx
/-! the law of two that ask one behind the other -/
def TG (Ta L U1 U2 : Hp → Prop) (KT : Nat → Hp → Prop) : Nat → Hp → Prop
  | 0 => Ta
  | 1 => L
  | 2 => U1
  | 3 => U2
  | i + 4 => KT i
/-- the keepers that are made so far -/
structure Made (t : Adr) (H : Hp) (Sa : List Addr) (Ta : Hp → Prop) (pl : Addr) (ks : List Addr) (wt : Int) (Sk : Nat → List Addr) (k0 : KW) : Prop where
  fam : Fam t H (SF Sa pl [] [] Sk) (TG Ta (fun H => H pl = some (.lst (ks.map V.ref))) (fun _ => True) (fun _ => True) (KTh t ks wt Sk fun _ => k0))
  out : ∀ j, ks.length ≤ j → Sk j = []
section
variable {t : Adr} {H H' : Hp} {Sa : List Addr} {Ta : Hp → Prop} {pl : Addr} {ks : List Addr} {wt n len : Int} {Sk : Nat → List Addr} {k0 : KW} {S S' : List Addr}
theorem born {p dx C : Addr} (np : H p = none) (nd : H dx = none) (f : ∀ x o, upd (upd H dx (.own p)) p (.ins C dx []) x = some o → x ≠ p → H' x = some o) (fS : ∀ x, x ∈ S → x = p ∨ upd (upd H dx (.own p)) p (.ins C dx []) x = none) : Same H H' ∧ ∀ x, x ∈ S → H x = none := by
  refine ⟨fun x o e => f x o ?_ (ne_of_none e np), fun x hx => ?_⟩
  · rw [upd_ne (ne_of_none e np), upd_ne (ne_of_none e nd)]
    exact e
  · cases e : H x with
    | none => rfl
    | some o =>
      rcases fS x hx with y | y
      · rw [y, np] at e
        cases e
      · rw [upd_ne (ne_of_none e np), upd_ne (ne_of_none e nd), e] at y
        cases y
theorem list_foot {pl : Addr} {xs : List V} : Foot t [pl] (fun H => H pl = some (.lst xs)) := by
  refine ⟨fun H h x hx => ?_, fun H H' h f _ => f _ _ h (List.mem_singleton.mpr rfl)⟩
  rw [List.mem_singleton] at hx
  subst hx
  exact ⟨_, h, by rintro (⟨_, z⟩ | ⟨_, _, _, _, _, z⟩) <;> cases z⟩
theorem Made.none (ft : Foot t Sa Ta) (h : Ta H) (hpl : H pl = none) : Made t (upd H pl (.lst [])) Sa Ta pl [] wt (fun _ => []) k0 := by
  have F1 := (Fam.solo ft h).step (i := 1) (H' := upd H pl (.lst [])) (S' := [pl]) (Th' := fun H => H pl = some (.lst [])) (by
    rw [atS_ne (by omega)]
    exact fr_new (same_upd hpl) fun x hx => by rw [List.mem_singleton] at hx; rw [hx]; exact hpl) list_foot upd_same
  refine ⟨F1.as (fun j => ?_) fun j => ?_, fun _ _ => rfl⟩
  · rcases j with _ | _ | _ | _ | j
    · rw [atS_ne (by omega), atS_same]; rfl
    · rw [atS_same]; rfl
    · rw [atS_ne (by omega), atS_ne (by omega)]; rfl
    · rw [atS_ne (by omega), atS_ne (by omega)]; rfl
    · rw [atS_ne (by omega), atS_ne (by omega)]; rfl
  · rcases j with _ | _ | _ | _ | j
    · rw [atS_ne (by omega), atS_same]; rfl
    · rw [atS_same]; rfl
    · rw [atS_ne (by omega), atS_ne (by omega)]; rfl
    · rw [atS_ne (by omega), atS_ne (by omega)]; rfl
    · rw [atS_ne (by omega), atS_ne (by omega)]
      show (fun _ => True) = KTh t [] wt (fun _ => []) (fun _ => k0) j
      funext H
      exact propext ⟨fun _ p e => (by cases e), fun _ => trivial⟩
theorem Made.add (M : Made t H Sa Ta pl ks wt Sk k0) (s : Same H H') (fS : ∀ x, x ∈ S → H x = Option.none) {kp : Addr} (hk : KAt t H' kp S wt k0) : Made t (upd H' pl (.lst ((ks ++ [kp]).map V.ref))) Sa Ta pl (ks ++ [kp]) wt (atS Sk ks.length S) k0 := by
  have e0 : Sk ks.length = [] := M.out _ (Nat.le_refl _)
  have ft : Foot t S (KTh t (ks ++ [kp]) wt (atS Sk ks.length S) (fun _ => k0) ks.length) := by
    refine ⟨fun H h x hx => ?_, fun H H' h f ft p' e' => ?_⟩
    · have := h kp (by simp)
      exact this.some.2 x (by rw [atS_same]; exact hx)
    · have := h p' e'
      rw [atS_same] at this ⊢
      exact this.frame f ft
  have th : KTh t (ks ++ [kp]) wt (atS Sk ks.length S) (fun _ => k0) ks.length H' := fun p' e' => by
    simp at e'
    subst e'
    rw [atS_same]
    exact hk
  have F1 := M.fam.step (i := ks.length + 4) (S' := S) (by
    show Fr H H' (Sk ks.length) S
    rw [e0]
    exact fr_new s fS) ft th
  have F2 := F1.step (i := 1) (H' := upd H' pl (.lst ((ks ++ [kp]).map V.ref))) (S' := [pl]) (by
    rw [atS_ne (by omega)]
    exact ⟨fun x o e nx => by rw [upd_ne fun y => nx (by rw [y]; exact List.mem_singleton.mpr rfl)]; exact e, fun x h => .inl h⟩) (list_foot (xs := (ks ++ [kp]).map V.ref)) upd_same
  refine ⟨F2.as (fun j => ?_) fun j => ?_, fun j hj => ?_⟩
  · rcases j with _ | _ | _ | _ | j
    · rw [atS_ne (by omega), atS_ne (by omega)]; rfl
    · rw [atS_same]; rfl
    · rw [atS_ne (by omega), atS_ne (by omega)]; rfl
    · rw [atS_ne (by omega), atS_ne (by omega)]; rfl
    · rw [atS_ne (by omega)]
      by_cases ej : j = ks.length
      · subst ej
        rw [atS_same]
        exact atS_same.symm
      · rw [atS_ne (by omega)]
        exact (atS_ne ej).symm
  · rcases j with _ | _ | _ | _ | j
    · rw [atS_ne (by omega), atS_ne (by omega)]; rfl
    · rw [atS_same]; rfl
    · rw [atS_ne (by omega), atS_ne (by omega)]; rfl
    · rw [atS_ne (by omega), atS_ne (by omega)]; rfl
    · rw [atS_ne (by omega)]
      by_cases ej : j = ks.length
      · subst ej
        rw [atS_same]
        rfl
      · rw [atS_ne (by omega)]
        show KTh t ks wt Sk (fun _ => k0) j = KTh t (ks ++ [kp]) wt (atS Sk ks.length S) (fun _ => k0) j
        unfold KTh
        rw [atS_ne ej]
        funext H
        have : (ks ++ [kp])[j]? = ks[j]? := by
          by_cases lj : j < ks.length
          · exact List.getElem?_append_left lj
          · rw [List.getElem?_eq_none (l := ks ++ [kp]) (by rw [List.length_append, List.length_singleton]; omega), List.getElem?_eq_none (by omega)]
        rw [this]
  · rw [List.length_append, List.length_singleton] at hj
    rw [atS_ne (by omega)]
    exact M.out j (by omega)
theorem Made.two {p1 p2 : Addr} {S1 S2 : List Addr} {h1 h2 : HW} {H1 H2 : Hp} (M : Made t H Sa Ta pl ks wt Sk k0) (s1 : Same H H1) (f1 : ∀ x, x ∈ S1 → H x = Option.none) (a1 : HAt t H1 p1 S1 n len h1) (s2 : Same H1 H2) (f2 : ∀ x, x ∈ S2 → H1 x = Option.none) (a2 : HAt t H2 p2 S2 n len h2) (hn : (ks.length : Int) = n) :
    Two t H2 Sa Ta pl ks wt n len p1 S1 h1 p2 S2 h2 Sk fun _ => k0 := by
  have F1 := M.fam.step (i := 2) (S' := S1) (Th' := fun H => HAt t H p1 S1 n len h1) (fr_new s1 f1) HAt.foot a1
  have F2 := F1.step (i := 3) (S' := S2) (Th' := fun H => HAt t H p2 S2 n len h2) (by rw [atS_ne (by omega)]; exact fr_new s2 f2) HAt.foot a2
  exact ⟨F2.as (fun i => by rcases i with _ | _ | _ | _ | i <;> rfl) (fun i => by rcases i with _ | _ | _ | _ | i <;> rfl), hn⟩
end
/-- two lists of the same numbers -/
theorem deq_same {H : Hp} {n : Nat} {a b : Addr} {xs : List Int} (ne : a ≠ b) (ha : H a = some (.lst (xs.map V.int))) (hb : H b = some (.lst (xs.map V.int))) : DEq H (n + 1) (.ref a) (.ref b) true := by
  have h := DEq.lst (n := n) ne ha hb rfl (fun _ => true) fun j x y hx hy => by
    rw [hx] at hy
    cases hy
    rw [List.getElem?_map] at hx
    cases e : xs[j]? with
    | none => rw [e] at hx; cases hx
    | some i =>
      rw [e] at hx
      cases hx
      have h := DEq.sc (H := H) (n := n) (x := .int i) (y := .int i) rfl rfl
      have e2 : eqV (.int i) (.int i) = true := by simp [eqV]
      rw [e2] at h
      exact h
  have e : ((List.range (xs.map V.int).length).all fun _ => true) = true := by simp
  rw [e] at h
  exact h
theorem rd_neL {H : Hp} {Q : VK} {a b : Addr} {xs : List Int} (ne : a ≠ b) (ha : H a = some (.lst (xs.map V.int))) (hb : H b = some (.lst (xs.map V.int))) (q : Q (.bl false) H) : rNe2 (.ref a) (.ref b) H Q := .inr (.inl ⟨a, b, true, rfl, rfl, ne, deq_same ne ha hb, q⟩)
theorem rd_eqL {H : Hp} {Q : VK} {a b : Addr} {xs : List Int} (ne : a ≠ b) (ha : H a = some (.lst (xs.map V.int))) (hb : H b = some (.lst (xs.map V.int))) (q : Q (.bl true) H) : rEq2 (.ref a) (.ref b) H Q := .inr (.inl ⟨a, b, true, rfl, rfl, ne, deq_same ne ha hb, q⟩)
/-- a list of places, as numbers -/
theorem map_nat (ys : List Nat) : (ys.map fun (i : Nat) => V.int (i : Int)) = (ys.map fun (i : Nat) => (i : Int)).map V.int := by
  rw [List.map_map]
  rfl
theorem wait_bounds {lo hi le ke : Int} (dr : Drawn lo hi le ke) : 1 ≤ waitOf lo hi le ∧ waitOf lo hi le ≤ 60 := by
  obtain ⟨dl1, dl2, dh1, dh2, de1, de2, dk1, dk2⟩ := id dr
  unfold waitOf
  have e1 := Int.mul_ediv_add_emod (le + lo - 1) lo
  have e2 := Int.emod_nonneg (le + lo - 1) (show lo ≠ 0 by omega)
  have e3 := Int.emod_lt_of_pos (le + lo - 1) (show 0 < lo by omega)
  have n1 : 1 ≤ (le + lo - 1) / lo := (Int.le_ediv_iff_mul_le (by omega)).mpr (by omega)
  have n2 : (le + lo - 1) / lo ≤ 12 := by
    have : (le + lo - 1) / lo < 13 := (Int.ediv_lt_iff_lt_mul (by omega)).mpr (by omega)
    omega
  generalize (le + lo - 1) / lo = n at n1 n2 ⊢
  have m1 : 1 * 1 ≤ n * hi := Int.mul_le_mul n1 (by omega) (by omega) (by omega)
  have m2 : n * hi ≤ 12 * 5 := Int.mul_le_mul n2 dh2 (by omega) (by omega)
  omega
/-- while it waits, a keeper says no to all -/
theorem due_wait {c u wt clock name : Int} {q : Addr} {a b : Int} (h1 : ¬ clock < c) (h2 : clock < u) : due ⟨c, u, none⟩ wt 0 clock name q a b = (.bl false, ⟨clock, u, none⟩) := by
  unfold due
  rw [if_neg h1, if_neg (by decide), if_neg (by decide), if_pos h2]
theorem yess_none {wt : Int} {kw : Nat → KW} {clock name : Int} {q : Addr} {a b : Int} {n : Nat} (h : ∀ i, i < n → (due (kw i) wt 0 clock name q a b).1 = .bl false) : yess wt kw clock name q a b n = [] := by
  unfold yess
  rw [List.filter_eq_nil_iff]
  intro i hi
  rw [h i (List.mem_range.mp hi)]
  decide
def sp_law (K : PySem.W.Frag) : Sp := fun vs H Q _ => ∃ (a : Addr) (ns : List Int), vs = [.ref a] ∧ SqL K H a (ns.map V.int) ∧ ns.length ≤ 63 ∧ ∀ H', Q (.bl true) H'
section
variable {P : Program} {w : World} {K : PySem.W.Frag} {mg : Str → Option Value} {base : Heap} {t : Adr}
theorem ok_law (T : Txt K mg t) : FnOk P w K mg base CX0 5 t.f_law t.d_law ["_law_script"] (sp_law K) := by
  refine T.F_law.ok sc_law (fun vs H Q E h => ?_) (fun cdv A outer s H vs Q E hr h => ?_)
  · obtain ⟨a, ns, rfl, _⟩ := h
    rfl
  · obtain ⟨a, ns, rfl, hS, hlen, q⟩ := h
    refine ⟨_, (jss_cons (js_set (i := 1) nc_call sc_law.nd rfl lo_law__law_terms_here (je_call nm__law_terms lo_law__law_terms (ok_law_terms T) (hr.mono (by decide)) T.m_law_terms T.F_law_terms.kp T.b_law_terms pass0 sx_name (ns_cons sx_const ns_nil) (ja_cons sx_name (je_var (i := 0) nm__law_script lo_law__law_script rfl) (ja_cons sx_const je_int ja_nil))))
      (jss_cons (js_setc (i := 2) (nc_call _ _ _) sc_law.nd rfl lo_law__law_made rfl (je_make nm_Terms lo_law_Terms T.k_Terms (ok_Terms_init T) (hr.mono (by decide)) T.m_Terms T.b_Terms_init passX sx_sub (ns_cons sx_sub (ns_cons sx_sub (ns_cons sx_sub ns_nil))) (ja_cons sx_sub (je_ix jx_tup (je_var (i := 1) nm__law_terms_here lo_law__law_terms_here rfl) je_int (fun _ _ => rfl)) (ja_cons sx_sub (je_ix jx_tup (je_var (i := 1) nm__law_terms_here lo_law__law_terms_here rfl) je_int (fun _ _ => rfl)) (ja_cons sx_sub (je_ix jx_tup (je_var (i := 1) nm__law_terms_here lo_law__law_terms_here rfl) je_int (fun _ _ => rfl)) (ja_cons sx_sub (je_ix jx_tup (je_var (i := 1) nm__law_terms_here lo_law__law_terms_here rfl) je_int (fun _ _ => rfl)) ja_nil))))))
      (jss_cons (js_set (i := 3) nc_call sc_law.nd rfl lo_law__law_wait_here (je_call nm__law_wait lo_law__law_wait (ok_law_wait T) (hr.mono (by decide)) T.m_law_wait T.F_law_wait.kp T.b_law_wait pass0 sx_name ns_nil (ja_cons sx_name (je_var (i := 1) nm__law_terms_here lo_law__law_terms_here rfl) ja_nil)))
      (jss_cons (js_comp (i := 4) rfl sc_law.nd rfl lo_law__law_keepers (by rfl) (compSc_mk (sc := defScope s_law) (N := ["_law_script", "_law_terms_here", "_law_made", "_law_wait_here", "_law_keepers", "_law_one", "_law_other", "_law_before", "_law_clock", "_law_number", "_law_first", "_law_asked", "_law_k", "_law_yes", "_law_keeper"]) (cs := [2]) (ys := ["_law_made"]) rfl rfl (by decide +kernel)) (ji_range1 lo_law_range T.z_range sx_sub (ja_cons sx_sub (je_ix jx_tup (je_var (i := 1) nm__law_terms_here lo_law__law_terms_here rfl) je_int (fun _ _ => rfl)) ja_nil)) (fun _ _ _ _ _ _ => jif_nil) (fun _ _ _ _ _ _ => by exact (je_make nm_Keeper (lr_glob (by decide +kernel)) T.k_Keeper (ok_Keeper_init T) (hr.mono (by decide)) T.m_Keeper T.b_Keeper_init pass0 sx_name (ns_cons sx_const ns_nil) (ja_cons sx_name (je_cvar (i := 1) nm__law_made (lr_cell (by decide +kernel) rfl lo_law__law_made) rfl) (ja_cons sx_const je_int ja_nil)))) (fun _ => rfl))
      (jss_cons (js_set (i := 5) nc_call sc_law.nd rfl lo_law__law_one (je_make nm_Holder lo_law_Holder T.k_Holder (ok_Holder_init T) (hr.mono (by decide)) T.m_Holder T.b_Holder_init pass0 sx_name (ns_cons sx_const (ns_cons sx_const (ns_cons sx_const ns_nil))) (ja_cons sx_name (je_cvar (i := 2) nm__law_made lo_law__law_made rfl) (ja_cons sx_const je_int (ja_cons sx_const je_int (ja_cons sx_const je_int ja_nil))))))
      (jss_cons (js_set (i := 6) nc_call sc_law.nd rfl lo_law__law_other (je_make nm_Holder lo_law_Holder T.k_Holder (ok_Holder_init T) (hr.mono (by decide)) T.m_Holder T.b_Holder_init pass0 sx_name (ns_cons sx_const (ns_cons sx_const (ns_cons sx_un ns_nil))) (ja_cons sx_name (je_cvar (i := 2) nm__law_made lo_law__law_made rfl) (ja_cons sx_const je_int (ja_cons sx_const je_int (ja_cons sx_un (je_un ju_neg je_int) ja_nil))))))
      (jss_cons (js_set (i := 7) nc_bin sc_law.nd rfl lo_law__law_before (je_op jo_mod (je_call nm__law_mix lo_law__law_mix (ok_law_mix T) (hr.mono (by decide)) T.m_law_mix T.F_law_mix.kp T.b_law_mix pass0 sx_name (ns_cons sx_const ns_nil) (ja_cons sx_name (je_var (i := 0) nm__law_script lo_law__law_script rfl) (ja_cons sx_const je_int ja_nil))) je_int))
      (jss_cons (js_if (jt_bool (jw_or (jt_cmp (jo_neD (hu8_of hr)) (je_call nm__law_gets lo_law__law_gets (ok_law_gets T) (hr.mono (by decide)) T.m_law_gets T.F_law_gets.kp T.b_law_gets pass0 sx_name (ns_cons sx_bin (ns_cons sx_name (ns_cons sx_const (ns_cons sx_un ns_nil)))) (ja_cons sx_name (je_var (i := 4) nm__law_keepers lo_law__law_keepers rfl) (ja_cons sx_bin (je_op jo_sub (je_var (i := 3) nm__law_wait_here lo_law__law_wait_here rfl) je_int) (ja_cons sx_name (je_var (i := 6) nm__law_other lo_law__law_other rfl) (ja_cons sx_const je_int (ja_cons sx_un (je_un ju_neg je_int) ja_nil)))))) (je_lst ja_nil) (by decide) (by decide)) (jw_or1 (jt_val pl_call (je_meth bs_name rfl (by decide) (je_var (i := 6) nm__law_other lo_law__law_other rfl) T.cl_Holder T.h_Holder_holds (ok_Holder_holds T) (hr.mono (by decide)) T.b_Holder_holds passX sx_un ns_nil (ja_cons sx_un (je_un ju_neg je_int) ja_nil)))))) (jss_one (js_ret je_bl)) jss_nil)
      (jss_cons (js_set (i := 8) nc_bin sc_law.nd rfl lo_law__law_clock (je_op jo_add (je_var (i := 3) nm__law_wait_here lo_law__law_wait_here rfl) (je_op jo_mod (je_call nm__law_mix lo_law__law_mix (ok_law_mix T) (hr.mono (by decide)) T.m_law_mix T.F_law_mix.kp T.b_law_mix pass0 sx_name (ns_cons sx_const ns_nil) (ja_cons sx_name (je_var (i := 0) nm__law_script lo_law__law_script rfl) (ja_cons sx_const je_int ja_nil))) je_int)))
      (jss_cons (js_set (i := 9) nc_call sc_law.nd rfl lo_law__law_number (je_meth bs_name rfl (by decide) (je_var (i := 5) nm__law_one lo_law__law_one rfl) T.cl_Holder T.h_Holder_ask (ok_Holder_ask T) (hr.mono (by decide)) T.b_Holder_ask passX sx_const ns_nil (ja_cons sx_const je_int ja_nil)))
      (jss_cons (js_set (i := 10) nc_bin sc_law.nd rfl lo_law__law_first (je_op jo_add je_int (je_op jo_mod (je_call nm__law_mix lo_law__law_mix (ok_law_mix T) (hr.mono (by decide)) T.m_law_mix T.F_law_mix.kp T.b_law_mix pass0 sx_name (ns_cons sx_const ns_nil) (ja_cons sx_name (je_var (i := 0) nm__law_script lo_law__law_script rfl) (ja_cons sx_const je_int ja_nil))) (je_ix jx_tup (je_var (i := 1) nm__law_terms_here lo_law__law_terms_here rfl) je_int (fun _ _ => rfl)))))
      (jss_cons (js_set (i := 11) nc_bin sc_law.nd rfl lo_law__law_asked (je_op jo_sub (je_ix jx_tup (je_var (i := 1) nm__law_terms_here lo_law__law_terms_here rfl) je_int (fun _ _ => rfl)) (je_op jo_mod (je_call nm__law_mix lo_law__law_mix (ok_law_mix T) (hr.mono (by decide)) T.m_law_mix T.F_law_mix.kp T.b_law_mix pass0 sx_name (ns_cons sx_const ns_nil) (ja_cons sx_name (je_var (i := 0) nm__law_script lo_law__law_script rfl) (ja_cons sx_const je_int ja_nil))) (je_op jo_sub (je_ix jx_tup (je_var (i := 1) nm__law_terms_here lo_law__law_terms_here rfl) je_int (fun _ _ => rfl)) (je_op jo_fdiv (je_ix jx_tup (je_var (i := 1) nm__law_terms_here lo_law__law_terms_here rfl) je_int (fun _ _ => rfl)) je_int)))))
      (jss_cons (js_for PassesOwn.never rfl (ji_range1 lo_law_range T.z_range sx_name (ja_cons sx_name (je_var (i := 11) nm__law_asked lo_law__law_asked rfl) ja_nil)) (jg_name (i := 12) sc_law.nd rfl lo_law__law_k) (jss_cons (js_if (jt_bool (jw_or (jt_cmp jo_notB (je_meth bs_sub rfl (by decide) (je_ix jx_list (je_var (i := 4) nm__law_keepers lo_law__law_keepers rfl) (je_var (i := 12) nm__law_k lo_law__law_k rfl) (fun _ _ => rfl)) T.cl_Keeper T.h_Keeper_asked (ok_Keeper_asked T) (hr.mono (by decide)) T.b_Keeper_asked passX sx_name (ns_cons sx_const (ns_cons sx_name ns_nil)) (ja_cons sx_name (je_var (i := 8) nm__law_clock lo_law__law_clock rfl) (ja_cons sx_const je_int (ja_cons sx_name (je_var (i := 9) nm__law_number lo_law__law_number rfl) ja_nil)))) je_bl (by decide) (by decide)) (jw_or1 (jt_cmp jo_ne (je_meth bs_sub rfl (by decide) (je_ix jx_list (je_var (i := 4) nm__law_keepers lo_law__law_keepers rfl) (je_var (i := 12) nm__law_k lo_law__law_k rfl) (fun _ _ => rfl)) T.cl_Keeper T.h_Keeper_let_to (ok_Keeper_let_to T) (hr.mono (by decide)) T.b_Keeper_let_to passX sx_name ns_nil (ja_cons sx_name (je_var (i := 8) nm__law_clock lo_law__law_clock rfl) ja_nil)) je_int (by decide) (by decide))))) (jss_one (js_ret je_bl)) jss_nil)
      (jss_cons (js_expr nc_call (je_meth bs_name rfl (by decide) (je_var (i := 5) nm__law_one lo_law__law_one rfl) T.cl_Holder T.h_Holder_hear (ok_Holder_hear T) (hr.mono (by decide)) T.b_Holder_hear passX sx_name (ns_cons sx_name (ns_cons sx_name ns_nil)) (ja_cons sx_name (je_var (i := 10) nm__law_first lo_law__law_first rfl) (ja_cons sx_name (je_var (i := 12) nm__law_k lo_law__law_k rfl) (ja_cons sx_name (je_var (i := 9) nm__law_number lo_law__law_number rfl) ja_nil)))))
      (jss_one (js_if (jt_cmp jo_ne (je_meth bs_name rfl (by decide) (je_var (i := 5) nm__law_one lo_law__law_one rfl) T.cl_Holder T.h_Holder_holds (ok_Holder_holds T) (hr.mono (by decide)) T.b_Holder_holds passX sx_name ns_nil (ja_cons sx_name (je_var (i := 10) nm__law_first lo_law__law_first rfl) ja_nil)) (je_cmp jo_gt (je_op jo_mul je_int (je_op jo_add (je_var (i := 12) nm__law_k lo_law__law_k rfl) je_int)) (je_ix jx_tup (je_var (i := 1) nm__law_terms_here lo_law__law_terms_here rfl) je_int (fun _ _ => rfl)) (by decide) (by decide)) (by decide) (by decide)) (jss_one (js_ret je_bl)) jss_nil)))) (fun _ => rfl))
      (jss_cons (js_if (jt_bool (jw_or (jt_cmp jo_ne (je_meth bs_name rfl (by decide) (je_var (i := 5) nm__law_one lo_law__law_one rfl) T.cl_Holder T.h_Holder_until (ok_Holder_until T) (hr.mono (by decide)) T.b_Holder_until passX sx_name ns_nil (ja_cons sx_name (je_var (i := 10) nm__law_first lo_law__law_first rfl) ja_nil)) (je_op jo_add je_int (je_ix jx_tup (je_var (i := 1) nm__law_terms_here lo_law__law_terms_here rfl) je_int (fun _ _ => rfl))) (by decide) (by decide)) (jw_or1 (jt_not (jt_val pl_call (je_meth bs_name rfl (by decide) (je_var (i := 5) nm__law_one lo_law__law_one rfl) T.cl_Holder T.h_Holder_holds (ok_Holder_holds T) (hr.mono (by decide)) T.b_Holder_holds passX sx_bin ns_nil (ja_cons sx_bin (je_op jo_add je_int (je_ix jx_tup (je_var (i := 1) nm__law_terms_here lo_law__law_terms_here rfl) je_int (fun _ _ => rfl))) ja_nil))))))) (jss_one (js_ret je_bl)) jss_nil)
      (jss_cons (js_set (i := 13) nc_call sc_law.nd rfl lo_law__law_yes (je_call nm__law_gets lo_law__law_gets (ok_law_gets T) (hr.mono (by decide)) T.m_law_gets T.F_law_gets.kp T.b_law_gets pass0 sx_name (ns_cons sx_bin (ns_cons sx_name (ns_cons sx_const (ns_cons sx_un ns_nil)))) (ja_cons sx_name (je_var (i := 4) nm__law_keepers lo_law__law_keepers rfl) (ja_cons sx_bin (je_op jo_sub (je_op jo_add (je_var (i := 8) nm__law_clock lo_law__law_clock rfl) (je_var (i := 3) nm__law_wait_here lo_law__law_wait_here rfl)) je_int) (ja_cons sx_name (je_var (i := 6) nm__law_other lo_law__law_other rfl) (ja_cons sx_const je_int (ja_cons sx_un (je_un ju_neg je_int) ja_nil)))))))
      (jss_cons (js_if (jt_bool (jw_or (jt_cmp (jo_neD (hu8_of hr)) (je_var (i := 13) nm__law_yes lo_law__law_yes rfl) (je_callTy nm_list lo_law_list (jc_listRng rfl) T.z_list bt_list sx_call ns_nil (ja_cons sx_call (je_callTy nm_range lo_law_range jc_range T.z_range bt_range sx_name (ns_cons sx_sub ns_nil) (ja_cons sx_name (je_var (i := 11) nm__law_asked lo_law__law_asked rfl) (ja_cons sx_sub (je_ix jx_tup (je_var (i := 1) nm__law_terms_here lo_law__law_terms_here rfl) je_int (fun _ _ => rfl)) ja_nil))) ja_nil)) (by decide) (by decide)) (jw_or1 (jt_val pl_call (je_meth bs_name rfl (by decide) (je_var (i := 6) nm__law_other lo_law__law_other rfl) T.cl_Holder T.h_Holder_holds (ok_Holder_holds T) (hr.mono (by decide)) T.b_Holder_holds passX sx_un ns_nil (ja_cons sx_un (je_un ju_neg je_int) ja_nil)))))) (jss_one (js_ret je_bl)) jss_nil)
      (jss_cons (js_if (jt_cmp jo_eq (je_var (i := 7) nm__law_before lo_law__law_before rfl) je_int (by decide) (by decide)) (jss_cons (js_set (i := 9) nc_call sc_law.nd rfl lo_law__law_number (je_meth bs_name rfl (by decide) (je_var (i := 5) nm__law_one lo_law__law_one rfl) T.cl_Holder T.h_Holder_free (ok_Holder_free T) (hr.mono (by decide)) T.b_Holder_free passX sx_bin ns_nil (ja_cons sx_bin (je_op jo_add je_int (je_ix jx_tup (je_var (i := 1) nm__law_terms_here lo_law__law_terms_here rfl) je_int (fun _ _ => rfl))) ja_nil)))
      (jss_cons (js_if (jt_val pl_call (je_meth bs_name rfl (by decide) (je_var (i := 5) nm__law_one lo_law__law_one rfl) T.cl_Holder T.h_Holder_holds (ok_Holder_holds T) (hr.mono (by decide)) T.b_Holder_holds passX sx_bin ns_nil (ja_cons sx_bin (je_op jo_add je_int (je_ix jx_tup (je_var (i := 1) nm__law_terms_here lo_law__law_terms_here rfl) je_int (fun _ _ => rfl))) ja_nil))) (jss_one (js_ret je_bl)) jss_nil)
      (jss_one (js_for PassesOwn.never rfl (ji_list (je_var (i := 4) nm__law_keepers lo_law__law_keepers rfl)) (jg_name (i := 14) sc_law.nd rfl lo_law__law_keeper) (jss_one (js_expr nc_call (je_meth bs_name rfl (by decide) (je_var (i := 14) nm__law_keeper lo_law__law_keeper rfl) T.cl_Keeper T.h_Keeper_freed (ok_Keeper_freed T) (hr.mono (by decide)) T.b_Keeper_freed passX sx_bin (ns_cons sx_const (ns_cons sx_name ns_nil)) (ja_cons sx_bin (je_op jo_sub (je_op jo_add (je_var (i := 8) nm__law_clock lo_law__law_clock rfl) (je_var (i := 3) nm__law_wait_here lo_law__law_wait_here rfl)) je_int) (ja_cons sx_const je_int (ja_cons sx_name (je_var (i := 9) nm__law_number lo_law__law_number rfl) ja_nil)))))) (fun _ => rfl))))) (jss_one (js_if (jt_val pl_call (je_meth bs_name rfl (by decide) (je_var (i := 5) nm__law_one lo_law__law_one rfl) T.cl_Holder T.h_Holder_holds (ok_Holder_holds T) (hr.mono (by decide)) T.b_Holder_holds passX sx_bin ns_nil (ja_cons sx_bin (je_op jo_add je_int (je_ix jx_tup (je_var (i := 1) nm__law_terms_here lo_law__law_terms_here rfl) je_int (fun _ _ => rfl))) ja_nil))) (jss_one (js_ret je_bl)) jss_nil)))
      (jss_cons (js_set (i := 13) nc_call sc_law.nd rfl lo_law__law_yes (je_call nm__law_gets lo_law__law_gets (ok_law_gets T) (hr.mono (by decide)) T.m_law_gets T.F_law_gets.kp T.b_law_gets pass0 sx_name (ns_cons sx_bin (ns_cons sx_name (ns_cons sx_const (ns_cons sx_un ns_nil)))) (ja_cons sx_name (je_var (i := 4) nm__law_keepers lo_law__law_keepers rfl) (ja_cons sx_bin (je_op jo_add (je_op jo_sub (je_op jo_add (je_var (i := 8) nm__law_clock lo_law__law_clock rfl) (je_var (i := 3) nm__law_wait_here lo_law__law_wait_here rfl)) je_int) (je_var (i := 7) nm__law_before lo_law__law_before rfl)) (ja_cons sx_name (je_var (i := 6) nm__law_other lo_law__law_other rfl) (ja_cons sx_const je_int (ja_cons sx_un (je_un ju_neg je_int) ja_nil)))))))
      (jss_one (js_ret (je_and (je_cmp (jo_eqD (hu8_of hr)) (je_var (i := 13) nm__law_yes lo_law__law_yes rfl) (je_callTy nm_list lo_law_list (jc_listRng rfl) T.z_list bt_list sx_call ns_nil (ja_cons sx_call (je_callTy nm_range lo_law_range jc_range T.z_range bt_range sx_sub ns_nil (ja_cons sx_sub (je_ix jx_tup (je_var (i := 1) nm__law_terms_here lo_law__law_terms_here rfl) je_int (fun _ _ => rfl)) ja_nil)) ja_nil)) (by decide) (by decide)) (je_and (je_meth bs_name rfl (by decide) (je_var (i := 6) nm__law_other lo_law__law_other rfl) T.cl_Holder T.h_Holder_holds (ok_Holder_holds T) (hr.mono (by decide)) T.b_Holder_holds passX sx_un ns_nil (ja_cons sx_un (je_un ju_neg je_int) ja_nil)) (je_one (je_cmp jo_eq (je_meth bs_name rfl (by decide) (je_var (i := 6) nm__law_other lo_law__law_other rfl) T.cl_Holder T.h_Holder_until (ok_Holder_until T) (hr.mono (by decide)) T.b_Holder_until passX sx_un ns_nil (ja_cons sx_un (je_un ju_neg je_int) ja_nil)) (je_op jo_add (je_un ju_neg je_int) (je_ix jx_tup (je_var (i := 1) nm__law_terms_here lo_law__law_terms_here rfl) je_int (fun _ _ => rfl))) (by decide) (by decide))))))))))))))))))))))))).h, ?_⟩
    dsimp only [L2.start, List.map_cons, List.map_nil, List.length_cons, List.length_nil, List.cons_append, List.nil_append, List.replicate]
    refine seq_step fun R k1 => ?_
    try simp only [Y0, Y1, Y2, Y3, Y4, Y5, Y6, Y7, Y8, Y9, Ya, Yb, Yc, Yd, Ye, Yf, Yg, Yh, Yi, Yj, Yk, Yl, Ym, Yn, Yo, Yp, Yq, Yr, Ys, Yt, Yu, Yv, Yw, Yx, Yy, Yz, Z0, Z1, Z2, Z3, Z4, Z5, Z6, Z7, Z8, Z9, Za, Zb, Zc, Zd, Ze, Zf, Zg, Zh, Zi, Zj, Zk, Zl, Zm, Zn, Zo, Zp, Zq, Zr, Zs, Zt, Zu, Zv, Zw, Zx, Zy, Zz, V0, V1, V2, V3, V4, V5, V6, V7, V8, V9, Va, Vb, Vc, Vd, Ve, Vf, exists_eq_left', exists_eq_left, Vi, Vj, Vk, Vl, Vm, exists_and_left, Vo, and_true, true_and, if_true, if_false, decide_eq_true_eq, Vu, Vv, Vw, Vx, decide_eq_false_iff_not, reduceCtorEq, not_true_eq_false, not_false_eq_true, decide_true, decide_false]
    refine ⟨a, ns, 0, rfl, hS, fun lo hi le ke tp H1 dr S1 _ ht => k1 _ _ ?_⟩
    clear k1 R
    have hS1 := S1.seq hS
    have gd := dr.good
    obtain ⟨dl1, dl2, dh1, dh2, de1, de2, dk1, dk2⟩ := id dr
    refine seq_step fun R k1 => ?_
    try simp only [Y0, Y1, Y2, Y3, Y4, Y5, Y6, Y7, Y8, Y9, Ya, Yb, Yc, Yd, Ye, Yf, Yg, Yh, Yi, Yj, Yk, Yl, Ym, Yn, Yo, Yp, Yq, Yr, Ys, Yt, Yu, Yv, Yw, Yx, Yy, Yz, Z0, Z1, Z2, Z3, Z4, Z5, Z6, Z7, Z8, Z9, Za, Zb, Zc, Zd, Ze, Zf, Zg, Zh, Zi, Zj, Zk, Zl, Zm, Zn, Zo, Zp, Zq, Zr, Zs, Zt, Zu, Zv, Zw, Zx, Zy, Zz, V0, V1, V2, V3, V4, V5, V6, V7, V8, V9, Va, Vb, Vc, Vd, Ve, Vf, exists_eq_left', exists_eq_left, Vi, Vj, Vk, Vl, Vm, exists_and_left, Vo, and_true, true_and, if_true, if_false, decide_eq_true_eq, Vu, Vv, Vw, Vx, decide_eq_false_iff_not, reduceCtorEq, not_true_eq_false, not_false_eq_true, decide_true, decide_false]
    refine rd_ixT (SqT.of ht) (v := .int lo) rfl (rd_ixT (SqT.of ht) (v := .int hi) rfl (rd_ixT (SqT.of ht) (v := .int le) rfl (rd_ixT (SqT.of ht) (v := .int ke) rfl ?_)))
    refine fun tm dt ntm ndt _ => ⟨tm, dt, lo, hi, le, ke, rfl, upd_same, ⟨by omega, by omega⟩, ⟨by omega, by omega⟩, ⟨by omega, by omega⟩, ⟨by omega, by omega⟩, fun _ => ⟨rfl, k1 _ _ ?_⟩, fun ng => absurd gd ng⟩
    clear k1 R
    rw [upd_upd]
    have f3 : Same H1 (upd (upd H1 dt (.own tm)) tm (.ins t.Terms dt (terms lo hi le ke))) := fun x o e => by rw [upd_ne (ne_of_none e ntm), upd_ne (ne_of_none e ndt)]; exact e
    have htm : upd (upd H1 dt (.own tm)) tm (.ins t.Terms dt (terms lo hi le ke)) tm = some (.ins t.Terms dt (terms lo hi le ke)) := upd_same
    have ht3 := f3 _ _ ht
    have hS3 := f3.seq hS1
    generalize upd (upd H1 dt (.own tm)) tm (.ins t.Terms dt (terms lo hi le ke)) = H3 at f3 htm ht3 hS3 ⊢
    clear f3 ht hS1 hS S1 ntm ndt
    refine seq_step fun R k1 => ?_
    try simp only [Y0, Y1, Y2, Y3, Y4, Y5, Y6, Y7, Y8, Y9, Ya, Yb, Yc, Yd, Ye, Yf, Yg, Yh, Yi, Yj, Yk, Yl, Ym, Yn, Yo, Yp, Yq, Yr, Ys, Yt, Yu, Yv, Yw, Yx, Yy, Yz, Z0, Z1, Z2, Z3, Z4, Z5, Z6, Z7, Z8, Z9, Za, Zb, Zc, Zd, Ze, Zf, Zg, Zh, Zi, Zj, Zk, Zl, Zm, Zn, Zo, Zp, Zq, Zr, Zs, Zt, Zu, Zv, Zw, Zx, Zy, Zz, V0, V1, V2, V3, V4, V5, V6, V7, V8, V9, Va, Vb, Vc, Vd, Ve, Vf, exists_eq_left', exists_eq_left, Vi, Vj, Vk, Vl, Vm, exists_and_left, Vo, and_true, true_and, if_true, if_false, decide_eq_true_eq, Vu, Vv, Vw, Vx, decide_eq_false_iff_not, reduceCtorEq, not_true_eq_false, not_false_eq_true, decide_true, decide_false]
    refine ⟨tp, lo, hi, le, ke, rfl, ht3, dr, k1 _ _ ?_⟩
    clear k1 R
    refine seq_step fun R k1 => ?_
    try simp only [Y0, Y1, Y2, Y3, Y4, Y5, Y6, Y7, Y8, Y9, Ya, Yb, Yc, Yd, Ye, Yf, Yg, Yh, Yi, Yj, Yk, Yl, Ym, Yn, Yo, Yp, Yq, Yr, Ys, Yt, Yu, Yv, Yw, Yx, Yy, Yz, Z0, Z1, Z2, Z3, Z4, Z5, Z6, Z7, Z8, Z9, Za, Zb, Zc, Zd, Ze, Zf, Zg, Zh, Zi, Zj, Zk, Zl, Zm, Zn, Zo, Zp, Zq, Zr, Zs, Zt, Zu, Zv, Zw, Zx, Zy, Zz, V0, V1, V2, V3, V4, V5, V6, V7, V8, V9, Va, Vb, Vc, Vd, Ve, Vf, exists_eq_left', exists_eq_left, Vi, Vj, Vk, Vl, Vm, exists_and_left, Vo, and_true, true_and, if_true, if_false, decide_eq_true_eq, Vu, Vv, Vw, Vx, decide_eq_false_iff_not, reduceCtorEq, not_true_eq_false, not_false_eq_true, decide_true, decide_false, iRng1]
    refine rd_ixT (SqT.of ht3) (v := .int ke) rfl ⟨ke, rfl, by omega, by omega, fun pl hpl => ?_⟩
    obtain ⟨Sa, Ta, ftA, thA, sqA, soA⟩ := sq_thing (t := t) hS3
    have M0 : Made t (upd H3 pl (.lst [])) Sa Ta pl [] (waitOf lo hi le) (fun _ => []) ⟨0, 0 + waitOf lo hi le, none⟩ := Made.none ftA thA hpl
    refine comp_range (fun i ys H2 => ∃ ks Sk, ys = ks.map V.ref ∧ ks.length = i ∧ Same H3 H2 ∧ Made t H2 Sa Ta pl ks (waitOf lo hi le) Sk ⟨0, 0 + waitOf lo hi le, none⟩) ⟨[], _, rfl, rfl, same_upd hpl, M0⟩ ?_ ?_
    · rintro i ys H4 Nx hi8 ⟨ks, Sk, rfl, rfl, S4, M4⟩ hl4 nx
      try simp only [Y0, Y1, Y2, Y3, Y4, Y5, Y6, Y7, Y8, Y9, Ya, Yb, Yc, Yd, Ye, Yf, Yg, Yh, Yi, Yj, Yk, Yl, Ym, Yn, Yo, Yp, Yq, Yr, Ys, Yt, Yu, Yv, Yw, Yx, Yy, Yz, Z0, Z1, Z2, Z3, Z4, Z5, Z6, Z7, Z8, Z9, Za, Zb, Zc, Zd, Ze, Zf, Zg, Zh, Zi, Zj, Zk, Zl, Zm, Zn, Zo, Zp, Zq, Zr, Zs, Zt, Zu, Zv, Zw, Zx, Zy, Zz, V0, V1, V2, V3, V4, V5, V6, V7, V8, V9, Va, Vb, Vc, Vd, Ve, Vf, exists_eq_left', exists_eq_left, Vi, Vj, Vk, Vl, Vm, exists_and_left, Vo, and_true, true_and, if_true, if_false, decide_eq_true_eq, Vu, Vv, Vw, Vx, decide_eq_false_iff_not, reduceCtorEq, not_true_eq_false, not_false_eq_true, decide_true, decide_false, tTrue, Option.getD_some]
      refine fun kp dk nkp ndk _ => ⟨kp, dk, tm, dt, lo, hi, le, ke, 0, rfl, upd_same, ?_, gd, ⟨by decide, by decide⟩, fun H5 S f5 fS hk => ⟨rfl, ?_⟩⟩
      · have e4 := S4 _ _ htm
        rw [upd_ne (ne_of_none e4 nkp), upd_ne (ne_of_none e4 ndk)]
        exact e4
      obtain ⟨S5, fS2⟩ := born nkp ndk f5 fS
      have M5 := M4.add S5 fS2 hk
      refine ⟨S5 _ _ hl4, small1000 (by rw [List.length_map]; omega), nx _ _ ⟨ks ++ [kp], atS Sk ks.length S, (by rw [List.map_append]; rfl), by rw [List.length_append]; rfl, ?_, ?_⟩⟩
      · intro x o e
        have e5 := S5 _ _ (S4 _ _ e)
        rw [upd_ne fun y => ?_]
        · exact e5
        · rw [y, hpl] at e
          cases e
      · rw [List.map_append] at M5
        exact M5
    rintro ys H4 ⟨ks, Sk, rfl, hks, S4, M4⟩ hl4
    refine k1 _ _ ?_
    clear k1 R
    have ht4 := S4 _ _ ht3
    have htm4 := S4 _ _ htm
    clear M0 S4 hl4 hpl ht3 htm thA soA hS3
    refine seq_step fun R k1 => ?_
    try simp only [Y0, Y1, Y2, Y3, Y4, Y5, Y6, Y7, Y8, Y9, Ya, Yb, Yc, Yd, Ye, Yf, Yg, Yh, Yi, Yj, Yk, Yl, Ym, Yn, Yo, Yp, Yq, Yr, Ys, Yt, Yu, Yv, Yw, Yx, Yy, Yz, Z0, Z1, Z2, Z3, Z4, Z5, Z6, Z7, Z8, Z9, Za, Zb, Zc, Zd, Ze, Zf, Zg, Zh, Zi, Zj, Zk, Zl, Zm, Zn, Zo, Zp, Zq, Zr, Zs, Zt, Zu, Zv, Zw, Zx, Zy, Zz, V0, V1, V2, V3, V4, V5, V6, V7, V8, V9, Va, Vb, Vc, Vd, Ve, Vf, exists_eq_left', exists_eq_left, Vi, Vj, Vk, Vl, Vm, exists_and_left, Vo, and_true, true_and, if_true, if_false, decide_eq_true_eq, Vu, Vv, Vw, Vx, decide_eq_false_iff_not, reduceCtorEq, not_true_eq_false, not_false_eq_true, decide_true, decide_false]
    refine fun p1 d1 np1 nd1 _ => ⟨p1, d1, tm, dt, lo, hi, le, ke, 1, 0, 500, rfl, upd_same, ?_, gd, ⟨by decide, by decide⟩, fun H5 S5 f5 fS5 hk5 => ⟨rfl, k1 _ _ ?_⟩⟩
    · rw [upd_ne (ne_of_none htm4 np1), upd_ne (ne_of_none htm4 nd1)]
      exact htm4
    clear k1 R
    obtain ⟨s5, g5⟩ := born np1 nd1 f5 fS5
    have htm5 := s5 _ _ htm4
    refine seq_step fun R k1 => ?_
    try simp only [Y0, Y1, Y2, Y3, Y4, Y5, Y6, Y7, Y8, Y9, Ya, Yb, Yc, Yd, Ye, Yf, Yg, Yh, Yi, Yj, Yk, Yl, Ym, Yn, Yo, Yp, Yq, Yr, Ys, Yt, Yu, Yv, Yw, Yx, Yy, Yz, Z0, Z1, Z2, Z3, Z4, Z5, Z6, Z7, Z8, Z9, Za, Zb, Zc, Zd, Ze, Zf, Zg, Zh, Zi, Zj, Zk, Zl, Zm, Zn, Zo, Zp, Zq, Zr, Zs, Zt, Zu, Zv, Zw, Zx, Zy, Zz, V0, V1, V2, V3, V4, V5, V6, V7, V8, V9, Va, Vb, Vc, Vd, Ve, Vf, exists_eq_left', exists_eq_left, Vi, Vj, Vk, Vl, Vm, exists_and_left, Vo, and_true, true_and, if_true, if_false, decide_eq_true_eq, Vu, Vv, Vw, Vx, decide_eq_false_iff_not, reduceCtorEq, not_true_eq_false, not_false_eq_true, decide_true, decide_false]
    refine fun p2 d2 np2 nd2 _ => ⟨p2, d2, tm, dt, lo, hi, le, ke, 2, 0, -500, rfl, upd_same, ?_, gd, ⟨by decide, by decide⟩, fun H6 S6 f6 fS6 hk6 => ⟨rfl, k1 _ _ ?_⟩⟩
    · rw [upd_ne (ne_of_none htm5 np2), upd_ne (ne_of_none htm5 nd2)]
      exact htm5
    clear k1 R
    obtain ⟨s6, g6⟩ := born np2 nd2 f6 fS6
    have tw6 := M4.two s5 g5 hk5 s6 g6 hk6 (by omega)
    have ht6 := s6 _ _ (s5 _ _ ht4)
    clear s5 g5 hk5 s6 g6 hk6 M4 f5 f6 fS5 fS6 htm4 htm5 ht4 np1 nd1 np2 nd2
    refine seq_step fun R k1 => ?_
    try simp only [Y0, Y1, Y2, Y3, Y4, Y5, Y6, Y7, Y8, Y9, Ya, Yb, Yc, Yd, Ye, Yf, Yg, Yh, Yi, Yj, Yk, Yl, Ym, Yn, Yo, Yp, Yq, Yr, Ys, Yt, Yu, Yv, Yw, Yx, Yy, Yz, Z0, Z1, Z2, Z3, Z4, Z5, Z6, Z7, Z8, Z9, Za, Zb, Zc, Zd, Ze, Zf, Zg, Zh, Zi, Zj, Zk, Zl, Zm, Zn, Zo, Zp, Zq, Zr, Zs, Zt, Zu, Zv, Zw, Zx, Zy, Zz, V0, V1, V2, V3, V4, V5, V6, V7, V8, V9, Va, Vb, Vc, Vd, Ve, Vf, exists_eq_left', exists_eq_left, Vi, Vj, Vk, Vl, Vm, exists_and_left, Vo, and_true, true_and, if_true, if_false, decide_eq_true_eq, Vu, Vv, Vw, Vx, decide_eq_false_iff_not, reduceCtorEq, not_true_eq_false, not_false_eq_true, decide_true, decide_false]
    refine mix_at (sqA _ (tw6.fam.th 0)) fun i4 _ _ => ?_
    try simp only [Y0, Y1, Y2, Y3, Y4, Y5, Y6, Y7, Y8, Y9, Ya, Yb, Yc, Yd, Ye, Yf, Yg, Yh, Yi, Yj, Yk, Yl, Ym, Yn, Yo, Yp, Yq, Yr, Ys, Yt, Yu, Yv, Yw, Yx, Yy, Yz, Z0, Z1, Z2, Z3, Z4, Z5, Z6, Z7, Z8, Z9, Za, Zb, Zc, Zd, Ze, Zf, Zg, Zh, Zi, Zj, Zk, Zl, Zm, Zn, Zo, Zp, Zq, Zr, Zs, Zt, Zu, Zv, Zw, Zx, Zy, Zz, V0, V1, V2, V3, V4, V5, V6, V7, V8, V9, Va, Vb, Vc, Vd, Ve, Vf, exists_eq_left', exists_eq_left, Vi, Vj, Vk, Vl, Vm, exists_and_left, Vo, and_true, true_and, if_true, if_false, decide_eq_true_eq, Vu, Vv, Vw, Vx, decide_eq_false_iff_not, reduceCtorEq, not_true_eq_false, not_false_eq_true, decide_true, decide_false]
    refine ⟨by decide, k1 _ _ ?_⟩
    clear k1 R
    refine seq_step fun R k1 => ?_
    try simp only [Y0, Y1, Y2, Y3, Y4, Y5, Y6, Y7, Y8, Y9, Ya, Yb, Yc, Yd, Ye, Yf, Yg, Yh, Yi, Yj, Yk, Yl, Ym, Yn, Yo, Yp, Yq, Yr, Ys, Yt, Yu, Yv, Yw, Yx, Yy, Yz, Z0, Z1, Z2, Z3, Z4, Z5, Z6, Z7, Z8, Z9, Za, Zb, Zc, Zd, Ze, Zf, Zg, Zh, Zi, Zj, Zk, Zl, Zm, Zn, Zo, Zp, Zq, Zr, Zs, Zt, Zu, Zv, Zw, Zx, Zy, Zz, V0, V1, V2, V3, V4, V5, V6, V7, V8, V9, Va, Vb, Vc, Vd, Ve, Vf, exists_eq_left', exists_eq_left, Vi, Vj, Vk, Vl, Vm, exists_and_left, Vo, and_true, true_and, if_true, if_false, decide_eq_true_eq, Vu, Vv, Vw, Vx, decide_eq_false_iff_not, reduceCtorEq, not_true_eq_false, not_false_eq_true, decide_true, decide_false]
    have bw := wait_bounds dr
    generalize waitOf lo hi le = wt at tw6 bw ⊢
    have dw : ∀ q a b, due ⟨0, 0 + wt, none⟩ wt 0 (wt - 1) 2 q a b = (.bl false, ⟨wt - 1, 0 + wt, none⟩) := fun q a b => due_wait (by omega) (by omega)
    refine ⟨Sa, Ta, pl, ks, wt, ke, le, p1, S5, _, p2, S6, _, Sk, _, wt - 1, 2, -500, rfl, tw6, by omega, by omega, Int.le_refl 0, by show (0 : Int) < 900; decide, ⟨by omega, by omega⟩, ⟨by decide, by decide⟩, ⟨by omega, by omega⟩, fun i _ => by show ¬ wt - 1 < 0; omega, by show ¬ (-500 : Int) < -500; decide, fun H7 S7 Sk7 q1 py tw7 fx7 hpy => ?_⟩
    have hys : ∀ a b, yess wt (fun _ => (⟨0, 0 + wt, none⟩ : KW)) (wt - 1) 2 q1 a b ks.length = [] := fun a b => yess_none fun i _ => by rw [dw]
    rw [hys] at tw7 hpy
    have ht7 := fx7 _ _ ht6 fx_tup
    clear fx7 tw6 ht6
    have hnn : (ks.length : Int) = ke := tw7.len
    have tw8 : Two t H7 Sa Ta pl ks wt ke le p1 S5 (hst 500 500 0 (fun _ _ => none) ks.length fun _ => 500) p2 S7 (hst (-500) (-500) 1 (fun x y => if x = 0 ∧ y = 0 then some (-500) else none) ks.length fun _ => -500) Sk7 (fun _ => ⟨wt - 1, wt, none⟩) := by
      have e := tw7.alike (kw' := fun _ => ⟨wt - 1, wt, none⟩) (fun i hi => by dsimp only; rw [if_pos hi, dw, Int.zero_add])
      rw [hst_new (c := 500) hnn, hst_new (c := -500) hnn, hst_ask (c := -500) (clock := -500) (by decide)] at e
      exact e
    clear tw7 dw hys
    have sle : Small le := ⟨by omega, by omega⟩
    refine ⟨Nat.zero_le _, fun pe hpe => ?_⟩
    refine rd_neL (xs := []) (ne_of_none hpy hpe) (same_upd hpe _ _ hpy) upd_same ⟨false, rfl, ?_⟩
    rw [if_neg (by decide)]
    have tw9 := tw8.same (same_upd (o := .lst []) hpe)
    have ht9 := same_upd (o := .lst []) hpe _ _ ht7
    generalize upd H7 pe (.lst []) = H8 at tw9 ht9 ⊢
    clear tw8 ht7 hpy hpe
    obtain ⟨dx, fs, hp, _, _, l3, _⟩ := tw9.other.meth
    refine rd_meth hp l3 ⟨p2, S7, ke, le, _, -500, 0, p2, 0, 0, rfl, tw9.other, by omega, by omega, (by show (1 : Int) < 1000; decide), ⟨by decide, by decide⟩, ⟨by decide, by decide⟩, sle, (fun e => absurd e (by decide)), fun H9 S9 f9 hk9 => ?_⟩
    rw [hst_holds (k := 0) (by decide) (cnt (Nat.zero_le _) fun i _ => ⟨fun h => absurd h (by decide), fun h => absurd h (Nat.not_lt_zero _)⟩)] at hk9 ⊢
    rw [show decide (ke < 2 * ((0 : Nat) : Int)) = false from decide_eq_false (by omega)]
    refine out_bl ⟨false, rfl, ?_⟩
    rw [if_neg (by decide)]
    refine k1 _ _ ?_
    clear k1 R
    have twA := tw9.put2 f9 hk9
    have htA := tw9.fam.fx (i := 3) f9 _ _ ht9 fx_tup
    clear tw9 ht9 f9 hk9 hp l3
    refine seq_step fun R k1 => ?_
    try simp only [Y0, Y1, Y2, Y3, Y4, Y5, Y6, Y7, Y8, Y9, Ya, Yb, Yc, Yd, Ye, Yf, Yg, Yh, Yi, Yj, Yk, Yl, Ym, Yn, Yo, Yp, Yq, Yr, Ys, Yt, Yu, Yv, Yw, Yx, Yy, Yz, Z0, Z1, Z2, Z3, Z4, Z5, Z6, Z7, Z8, Z9, Za, Zb, Zc, Zd, Ze, Zf, Zg, Zh, Zi, Zj, Zk, Zl, Zm, Zn, Zo, Zp, Zq, Zr, Zs, Zt, Zu, Zv, Zw, Zx, Zy, Zz, V0, V1, V2, V3, V4, V5, V6, V7, V8, V9, Va, Vb, Vc, Vd, Ve, Vf, exists_eq_left', exists_eq_left, Vi, Vj, Vk, Vl, Vm, exists_and_left, Vo, and_true, true_and, if_true, if_false, decide_eq_true_eq, Vu, Vv, Vw, Vx, decide_eq_false_iff_not, reduceCtorEq, not_true_eq_false, not_false_eq_true, decide_true, decide_false]
    refine mix_at (sqA _ (twA.fam.th 0)) fun i5 _ _ => ?_
    try simp only [Y0, Y1, Y2, Y3, Y4, Y5, Y6, Y7, Y8, Y9, Ya, Yb, Yc, Yd, Ye, Yf, Yg, Yh, Yi, Yj, Yk, Yl, Ym, Yn, Yo, Yp, Yq, Yr, Ys, Yt, Yu, Yv, Yw, Yx, Yy, Yz, Z0, Z1, Z2, Z3, Z4, Z5, Z6, Z7, Z8, Z9, Za, Zb, Zc, Zd, Ze, Zf, Zg, Zh, Zi, Zj, Zk, Zl, Zm, Zn, Zo, Zp, Zq, Zr, Zs, Zt, Zu, Zv, Zw, Zx, Zy, Zz, V0, V1, V2, V3, V4, V5, V6, V7, V8, V9, Va, Vb, Vc, Vd, Ve, Vf, exists_eq_left', exists_eq_left, Vi, Vj, Vk, Vl, Vm, exists_and_left, Vo, and_true, true_and, if_true, if_false, decide_eq_true_eq, Vu, Vv, Vw, Vx, decide_eq_false_iff_not, reduceCtorEq, not_true_eq_false, not_false_eq_true, decide_true, decide_false]
    refine ⟨by decide, k1 _ _ ?_⟩
    clear k1 R
    have c0 := Int.emod_nonneg i5 (show (9 : Int) ≠ 0 by decide)
    have c1 := Int.emod_lt_of_pos i5 (show (0 : Int) < 9 by decide)
    generalize i5 % 9 = r9 at c0 c1 ⊢
    obtain ⟨ck, hck⟩ : ∃ ck, wt + r9 = ck := ⟨_, rfl⟩
    rw [hck]
    refine seq_step fun R k1 => ?_
    try simp only [Y0, Y1, Y2, Y3, Y4, Y5, Y6, Y7, Y8, Y9, Ya, Yb, Yc, Yd, Ye, Yf, Yg, Yh, Yi, Yj, Yk, Yl, Ym, Yn, Yo, Yp, Yq, Yr, Ys, Yt, Yu, Yv, Yw, Yx, Yy, Yz, Z0, Z1, Z2, Z3, Z4, Z5, Z6, Z7, Z8, Z9, Za, Zb, Zc, Zd, Ze, Zf, Zg, Zh, Zi, Zj, Zk, Zl, Zm, Zn, Zo, Zp, Zq, Zr, Zs, Zt, Zu, Zv, Zw, Zx, Zy, Zz, V0, V1, V2, V3, V4, V5, V6, V7, V8, V9, Va, Vb, Vc, Vd, Ve, Vf, exists_eq_left', exists_eq_left, Vi, Vj, Vk, Vl, Vm, exists_and_left, Vo, and_true, true_and, if_true, if_false, decide_eq_true_eq, Vu, Vv, Vw, Vx, decide_eq_false_iff_not, reduceCtorEq, not_true_eq_false, not_false_eq_true, decide_true, decide_false]
    obtain ⟨dx, fs, hp, l1, _⟩ := twA.one.meth
    refine rd_meth hp l1 ⟨p1, S5, ke, le, _, 500, 0, p1, 0, 0, rfl, twA.one, by omega, by omega, (by show (0 : Int) < 1000; decide), ⟨by decide, by decide⟩, ⟨by decide, by decide⟩, sle, (fun e => absurd e (by decide)), fun HB SB fB hkB => ?_⟩
    rw [hst_ask (by decide)] at hkB ⊢
    refine out_pair fun qn hqn => k1 _ _ ?_
    clear k1 R
    have twB := twA.put1 fB hkB
    have htB := twA.fam.fx (i := 2) fB _ _ htA fx_tup
    clear twA htA fB hkB hp l1
    refine seq_step fun R k1 => ?_
    try simp only [Y0, Y1, Y2, Y3, Y4, Y5, Y6, Y7, Y8, Y9, Ya, Yb, Yc, Yd, Ye, Yf, Yg, Yh, Yi, Yj, Yk, Yl, Ym, Yn, Yo, Yp, Yq, Yr, Ys, Yt, Yu, Yv, Yw, Yx, Yy, Yz, Z0, Z1, Z2, Z3, Z4, Z5, Z6, Z7, Z8, Z9, Za, Zb, Zc, Zd, Ze, Zf, Zg, Zh, Zi, Zj, Zk, Zl, Zm, Zn, Zo, Zp, Zq, Zr, Zs, Zt, Zu, Zv, Zw, Zx, Zy, Zz, V0, V1, V2, V3, V4, V5, V6, V7, V8, V9, Va, Vb, Vc, Vd, Ve, Vf, exists_eq_left', exists_eq_left, Vi, Vj, Vk, Vl, Vm, exists_and_left, Vo, and_true, true_and, if_true, if_false, decide_eq_true_eq, Vu, Vv, Vw, Vx, decide_eq_false_iff_not, reduceCtorEq, not_true_eq_false, not_false_eq_true, decide_true, decide_false]
    refine mix_at (sqA _ (twB.fam.th 0)) fun i6 _ _ => ?_
    try simp only [Y0, Y1, Y2, Y3, Y4, Y5, Y6, Y7, Y8, Y9, Ya, Yb, Yc, Yd, Ye, Yf, Yg, Yh, Yi, Yj, Yk, Yl, Ym, Yn, Yo, Yp, Yq, Yr, Ys, Yt, Yu, Yv, Yw, Yx, Yy, Yz, Z0, Z1, Z2, Z3, Z4, Z5, Z6, Z7, Z8, Z9, Za, Zb, Zc, Zd, Ze, Zf, Zg, Zh, Zi, Zj, Zk, Zl, Zm, Zn, Zo, Zp, Zq, Zr, Zs, Zt, Zu, Zv, Zw, Zx, Zy, Zz, V0, V1, V2, V3, V4, V5, V6, V7, V8, V9, Va, Vb, Vc, Vd, Ve, Vf, exists_eq_left', exists_eq_left, Vi, Vj, Vk, Vl, Vm, exists_and_left, Vo, and_true, true_and, if_true, if_false, decide_eq_true_eq, Vu, Vv, Vw, Vx, decide_eq_false_iff_not, reduceCtorEq, not_true_eq_false, not_false_eq_true, decide_true, decide_false]
    refine rd_ixT (SqT.of htB) (v := .int le) rfl ?_
    try simp only [Y0, Y1, Y2, Y3, Y4, Y5, Y6, Y7, Y8, Y9, Ya, Yb, Yc, Yd, Ye, Yf, Yg, Yh, Yi, Yj, Yk, Yl, Ym, Yn, Yo, Yp, Yq, Yr, Ys, Yt, Yu, Yv, Yw, Yx, Yy, Yz, Z0, Z1, Z2, Z3, Z4, Z5, Z6, Z7, Z8, Z9, Za, Zb, Zc, Zd, Ze, Zf, Zg, Zh, Zi, Zj, Zk, Zl, Zm, Zn, Zo, Zp, Zq, Zr, Zs, Zt, Zu, Zv, Zw, Zx, Zy, Zz, V0, V1, V2, V3, V4, V5, V6, V7, V8, V9, Va, Vb, Vc, Vd, Ve, Vf, exists_eq_left', exists_eq_left, Vi, Vj, Vk, Vl, Vm, exists_and_left, Vo, and_true, true_and, if_true, if_false, decide_eq_true_eq, Vu, Vv, Vw, Vx, decide_eq_false_iff_not, reduceCtorEq, not_true_eq_false, not_false_eq_true, decide_true, decide_false]
    refine ⟨by omega, k1 _ _ ?_⟩
    clear k1 R
    have d0 := Int.emod_nonneg i6 (show le ≠ 0 by omega)
    have d1 := Int.emod_lt_of_pos i6 (show 0 < le by omega)
    generalize i6 % le = r6 at d0 d1 ⊢
    obtain ⟨fr, hfr⟩ : ∃ fr, 500 + r6 = fr := ⟨_, rfl⟩
    rw [hfr]
    refine seq_step fun R k1 => ?_
    try simp only [Y0, Y1, Y2, Y3, Y4, Y5, Y6, Y7, Y8, Y9, Ya, Yb, Yc, Yd, Ye, Yf, Yg, Yh, Yi, Yj, Yk, Yl, Ym, Yn, Yo, Yp, Yq, Yr, Ys, Yt, Yu, Yv, Yw, Yx, Yy, Yz, Z0, Z1, Z2, Z3, Z4, Z5, Z6, Z7, Z8, Z9, Za, Zb, Zc, Zd, Ze, Zf, Zg, Zh, Zi, Zj, Zk, Zl, Zm, Zn, Zo, Zp, Zq, Zr, Zs, Zt, Zu, Zv, Zw, Zx, Zy, Zz, V0, V1, V2, V3, V4, V5, V6, V7, V8, V9, Va, Vb, Vc, Vd, Ve, Vf, exists_eq_left', exists_eq_left, Vi, Vj, Vk, Vl, Vm, exists_and_left, Vo, and_true, true_and, if_true, if_false, decide_eq_true_eq, Vu, Vv, Vw, Vx, decide_eq_false_iff_not, reduceCtorEq, not_true_eq_false, not_false_eq_true, decide_true, decide_false]
    refine rd_ixT (SqT.of htB) (v := .int ke) rfl (mix_at (sqA _ (twB.fam.th 0)) fun i7 _ _ => ?_)
    try simp only [Y0, Y1, Y2, Y3, Y4, Y5, Y6, Y7, Y8, Y9, Ya, Yb, Yc, Yd, Ye, Yf, Yg, Yh, Yi, Yj, Yk, Yl, Ym, Yn, Yo, Yp, Yq, Yr, Ys, Yt, Yu, Yv, Yw, Yx, Yy, Yz, Z0, Z1, Z2, Z3, Z4, Z5, Z6, Z7, Z8, Z9, Za, Zb, Zc, Zd, Ze, Zf, Zg, Zh, Zi, Zj, Zk, Zl, Zm, Zn, Zo, Zp, Zq, Zr, Zs, Zt, Zu, Zv, Zw, Zx, Zy, Zz, V0, V1, V2, V3, V4, V5, V6, V7, V8, V9, Va, Vb, Vc, Vd, Ve, Vf, exists_eq_left', exists_eq_left, Vi, Vj, Vk, Vl, Vm, exists_and_left, Vo, and_true, true_and, if_true, if_false, decide_eq_true_eq, Vu, Vv, Vw, Vx, decide_eq_false_iff_not, reduceCtorEq, not_true_eq_false, not_false_eq_true, decide_true, decide_false]
    refine rd_ixT (SqT.of htB) (v := .int ke) rfl (rd_ixT (SqT.of htB) (v := .int ke) rfl ?_)
    try simp only [Y0, Y1, Y2, Y3, Y4, Y5, Y6, Y7, Y8, Y9, Ya, Yb, Yc, Yd, Ye, Yf, Yg, Yh, Yi, Yj, Yk, Yl, Ym, Yn, Yo, Yp, Yq, Yr, Ys, Yt, Yu, Yv, Yw, Yx, Yy, Yz, Z0, Z1, Z2, Z3, Z4, Z5, Z6, Z7, Z8, Z9, Za, Zb, Zc, Zd, Ze, Zf, Zg, Zh, Zi, Zj, Zk, Zl, Zm, Zn, Zo, Zp, Zq, Zr, Zs, Zt, Zu, Zv, Zw, Zx, Zy, Zz, V0, V1, V2, V3, V4, V5, V6, V7, V8, V9, Va, Vb, Vc, Vd, Ve, Vf, exists_eq_left', exists_eq_left, Vi, Vj, Vk, Vl, Vm, exists_and_left, Vo, and_true, true_and, if_true, if_false, decide_eq_true_eq, Vu, Vv, Vw, Vx, decide_eq_false_iff_not, reduceCtorEq, not_true_eq_false, not_false_eq_true, decide_true, decide_false]
    refine ⟨⟨by decide, by decide⟩, by omega, k1 _ _ ?_⟩
    clear k1 R
    have g0 := Int.emod_nonneg i7 (show ke - ke / 2 ≠ 0 by omega)
    have g1 := Int.emod_lt_of_pos i7 (show 0 < ke - ke / 2 by omega)
    generalize i7 % (ke - ke / 2) = r7 at g0 g1 ⊢
    obtain ⟨ka, hka⟩ : ∃ ka : Nat, ke - r7 = (ka : Int) := ⟨_, (Int.toNat_of_nonneg (by omega)).symm⟩
    rw [hka]
    have ka1 : ke < 2 * (ka : Int) := by omega
    have ka2 : ka ≤ ks.length := by omega
    clear g0 g1 hka
    have sck : Small ck := ⟨by omega, by omega⟩
    have sfr : Small fr := ⟨by omega, by omega⟩
    refine seq_step fun R k1 => ?_
    refine for_step fun B kB => ?_
    try simp only [Y0, Y1, Y2, Y3, Y4, Y5, Y6, Y7, Y8, Y9, Ya, Yb, Yc, Yd, Ye, Yf, Yg, Yh, Yi, Yj, Yk, Yl, Ym, Yn, Yo, Yp, Yq, Yr, Ys, Yt, Yu, Yv, Yw, Yx, Yy, Yz, Z0, Z1, Z2, Z3, Z4, Z5, Z6, Z7, Z8, Z9, Za, Zb, Zc, Zd, Ze, Zf, Zg, Zh, Zi, Zj, Zk, Zl, Zm, Zn, Zo, Zp, Zq, Zr, Zs, Zt, Zu, Zv, Zw, Zx, Zy, Zz, V0, V1, V2, V3, V4, V5, V6, V7, V8, V9, Va, Vb, Vc, Vd, Ve, Vf, exists_eq_left', exists_eq_left, Vi, Vj, Vk, Vl, Vm, exists_and_left, Vo, and_true, true_and, if_true, if_false, decide_eq_true_eq, Vu, Vv, Vw, Vx, decide_eq_false_iff_not, reduceCtorEq, not_true_eq_false, not_false_eq_true, decide_true, decide_false, iRng1]
    refine ⟨by omega, by omega, kB _ _ ?_⟩
    clear kB B
    refine for_range (lo := 0) (fun i σ H6 => ∃ (S1 : List Addr) (Sk' : Nat → List Addr) (c : Int) (v12 : Option V), σ = [some (.ref a), some (.ref tp), some (.ref tm), some (.int wt), some (.ref pl), some (.ref p1), some (.ref p2), some (.int (i4 % 2)), some (.int ck), some (.ref qn), some (.int fr), some (.int (ka : Int)), v12, none, none] ∧ c ≤ fr ∧
      Two t H6 Sa Ta pl ks wt ke le p1 S1 (hst c 500 1 (fun x y => if x = 0 ∧ y = 0 then some 500 else none) ks.length fun j => if j < i then 500 + le else 500) p2 S9 (hst (-500) (-500) 1 (fun x y => if x = 0 ∧ y = 0 then some (-500) else none) ks.length fun _ => -500) Sk' (fun j => if j < i then ⟨ck, ck + wt, some ⟨1, qn, 0, 0⟩⟩ else ⟨wt - 1, wt, none⟩) ∧
      H6 qn = some (.tup [.int 0, .int 0]) ∧ H6 tp = some (.tup [.int lo, .int hi, .int le, .int ke])) ?_ ?_ ?_
    · refine ⟨SB, Sk7, 500, _, rfl, by omega, ?_, hqn, htB⟩
      rw [show (fun j => if j < 0 then 500 + le else 500) = (fun _ : Nat => (500 : Int)) from funext fun j => if_neg (Nat.not_lt_zero j)]
      exact twB.alike fun i _ => (if_neg (Nat.not_lt_zero i)).symm
    · rintro i σ H6 hi6 ⟨S1, Sk', c, v12, rfl, hc6, tw6, hq6, ht6⟩
      clear twB htB hqn k1
      have hik : i < ks.length := by omega
      have eks : ks[i]? = some ks[i] := List.getElem?_eq_getElem hik
      have ix : atI (ks.map V.ref) (0 + (i : Int)) = some (.ref ks[i]) := by
        rw [Int.zero_add]
        refine atI_nat ?_
        rw [List.getElem?_map, eks]
        rfl
      dsimp only [gName]
      refine seq_step fun R2 k2 => ?_
      try simp only [Y0, Y1, Y2, Y3, Y4, Y5, Y6, Y7, Y8, Y9, Ya, Yb, Yc, Yd, Ye, Yf, Yg, Yh, Yi, Yj, Yk, Yl, Ym, Yn, Yo, Yp, Yq, Yr, Ys, Yt, Yu, Yv, Yw, Yx, Yy, Yz, Z0, Z1, Z2, Z3, Z4, Z5, Z6, Z7, Z8, Z9, Za, Zb, Zc, Zd, Ze, Zf, Zg, Zh, Zi, Zj, Zk, Zl, Zm, Zn, Zo, Zp, Zq, Zr, Zs, Zt, Zu, Zv, Zw, Zx, Zy, Zz, V0, V1, V2, V3, V4, V5, V6, V7, V8, V9, Va, Vb, Vc, Vd, Ve, Vf, exists_eq_left', exists_eq_left, Vi, Vj, Vk, Vl, Vm, exists_and_left, Vo, and_true, true_and, if_true, if_false, decide_eq_true_eq, Vu, Vv, Vw, Vx, decide_eq_false_iff_not, reduceCtorEq, not_true_eq_false, not_false_eq_true, decide_true, decide_false]
      refine rd_ixL (SqL.of tw6.list) ix ?_
      have hk6 := tw6.keeper eks
      rw [if_neg (Nat.lt_irrefl i)] at hk6
      obtain ⟨dx, fs, hp, m1, _⟩ := hk6.meth
      refine rd_meth hp m1 ⟨ks[i], Sk' i, wt, _, ck, 1, qn, 0, 0, rfl, hk6, sck, (fun _ => hq6), fun H7 S7 f7 hk7 => ?_⟩
      rw [due_over (by omega) (by omega)] at hk7 ⊢
      refine outk_bl ?_
      have tw7 := tw6.putK eks f7 hk7
      have hq7 := tw6.fam.fx (i := i + 4) f7 _ _ hq6 fx_tup
      have ht7 := tw6.fam.fx (i := i + 4) f7 _ _ ht6 fx_tup
      refine ⟨true, true, rfl, rfl, false, rfl, ?_⟩
      rw [if_neg (by decide)]
      refine rd_ixL (SqL.of tw7.list) ix ?_
      have hk7' := tw7.keeper eks
      rw [atS_same, atS_same] at hk7'
      obtain ⟨dx, fs, hp, _, _, m3⟩ := hk7'.meth
      refine rd_meth hp m3 ⟨ks[i], S7, wt, _, ck, 0, qn, 0, 0, rfl, hk7', sck, (fun e => absurd rfl e), fun H8 S8 f8 hk8 => ?_⟩
      rw [due_let (by omega) (by omega)] at hk8 ⊢
      refine outk_int ?_
      have tw8 := tw7.putK eks (by rw [atS_same]; exact f8) hk8
      have fx8 := tw7.fam.fx (i := i + 4) (by show Fr H7 H8 (atS Sk' i S7 i) S8; rw [atS_same]; exact f8)
      have hq8 := fx8 _ _ hq7 fx_tup
      have ht8 := fx8 _ _ ht7 fx_tup
      rw [rNe_int]
      refine ⟨false, rfl, ?_⟩
      rw [if_neg (by decide)]
      refine k2 _ _ ?_
      clear k2 R2
      refine seq_step fun R2 k2 => ?_
      try simp only [Y0, Y1, Y2, Y3, Y4, Y5, Y6, Y7, Y8, Y9, Ya, Yb, Yc, Yd, Ye, Yf, Yg, Yh, Yi, Yj, Yk, Yl, Ym, Yn, Yo, Yp, Yq, Yr, Ys, Yt, Yu, Yv, Yw, Yx, Yy, Yz, Z0, Z1, Z2, Z3, Z4, Z5, Z6, Z7, Z8, Z9, Za, Zb, Zc, Zd, Ze, Zf, Zg, Zh, Zi, Zj, Zk, Zl, Zm, Zn, Zo, Zp, Zq, Zr, Zs, Zt, Zu, Zv, Zw, Zx, Zy, Zz, V0, V1, V2, V3, V4, V5, V6, V7, V8, V9, Va, Vb, Vc, Vd, Ve, Vf, exists_eq_left', exists_eq_left, Vi, Vj, Vk, Vl, Vm, exists_and_left, Vo, and_true, true_and, if_true, if_false, decide_eq_true_eq, Vu, Vv, Vw, Vx, decide_eq_false_iff_not, reduceCtorEq, not_true_eq_false, not_false_eq_true, decide_true, decide_false]
      obtain ⟨dx, fs, hp, _, l2, _⟩ := tw8.one.meth
      refine rd_meth hp l2 ⟨p1, S1, ke, le, _, fr, 0 + (i : Int), qn, 0, 0, rfl, tw8.one, by omega, by omega, (by show (1 : Int) < 1000; decide), sfr, ⟨by omega, by omega⟩, sle, (fun _ => hq8), fun HA SA fA hkA => ?_⟩
      have ef : (fun j => if j = i then max ((fun j => if j < i then 500 + le else 500) i) (500 + le) else (fun j => if j < i then 500 + le else 500) j) = fun j => if j < i + 1 then 500 + le else 500 := by
        funext j
        dsimp only
        by_cases e : j = i
        · subst e
          rw [if_pos rfl, if_neg (Nat.lt_irrefl j), if_pos (Nat.lt_succ_self j)]
          omega
        · rw [if_neg e]
          by_cases e2 : j < i
          · rw [if_pos e2, if_pos (by omega)]
          · rw [if_neg e2, if_neg (by omega)]
      rw [Int.zero_add, hst_hear (x := 500) hnn hik (by omega) (if_pos ⟨rfl, rfl⟩), ef] at hkA
      rw [Int.zero_add, hst_hear (x := 500) hnn hik (by omega) (if_pos ⟨rfl, rfl⟩)]
      refine out_non (k2 _ _ ?_)
      clear k2 R2
      have twA := tw8.put1 fA hkA
      have fxA := tw8.fam.fx (i := 2) fA
      have hqA := fxA _ _ hq8 fx_tup
      have htA := fxA _ _ ht8 fx_tup
      try simp only [Y0, Y1, Y2, Y3, Y4, Y5, Y6, Y7, Y8, Y9, Ya, Yb, Yc, Yd, Ye, Yf, Yg, Yh, Yi, Yj, Yk, Yl, Ym, Yn, Yo, Yp, Yq, Yr, Ys, Yt, Yu, Yv, Yw, Yx, Yy, Yz, Z0, Z1, Z2, Z3, Z4, Z5, Z6, Z7, Z8, Z9, Za, Zb, Zc, Zd, Ze, Zf, Zg, Zh, Zi, Zj, Zk, Zl, Zm, Zn, Zo, Zp, Zq, Zr, Zs, Zt, Zu, Zv, Zw, Zx, Zy, Zz, V0, V1, V2, V3, V4, V5, V6, V7, V8, V9, Va, Vb, Vc, Vd, Ve, Vf, exists_eq_left', exists_eq_left, Vi, Vj, Vk, Vl, Vm, exists_and_left, Vo, and_true, true_and, if_true, if_false, decide_eq_true_eq, Vu, Vv, Vw, Vx, decide_eq_false_iff_not, reduceCtorEq, not_true_eq_false, not_false_eq_true, decide_true, decide_false]
      obtain ⟨dx, fs, hp, _, _, l3, _⟩ := twA.one.meth
      refine rd_meth hp l3 ⟨p1, SA, ke, le, _, fr, 0, p1, 0, 0, rfl, twA.one, by omega, by omega, (by show (1 : Int) < 1000; decide), sfr, ⟨by decide, by decide⟩, sle, (fun e => absurd e (by decide)), fun HC SC fC hkC => ?_⟩
      have hcn : ((List.range ks.length).filter fun j => decide (fr < if j < i + 1 then 500 + le else 500)).length = i + 1 := cnt hik fun j hj => by
        by_cases e : j < i + 1
        · rw [if_pos e]
          exact ⟨fun _ => e, fun _ => by omega⟩
        · rw [if_neg e]
          exact ⟨fun y => by omega, fun y => absurd y e⟩
      rw [hst_holds (k := i + 1) (Int.lt_irrefl _) hcn] at hkC ⊢
      refine out_bl ?_
      have twC := twA.put1 fC hkC
      have fxC := twA.fam.fx (i := 2) fC
      have hqC := fxC _ _ hqA fx_tup
      have htC := fxC _ _ htA fx_tup
      try simp only [Y0, Y1, Y2, Y3, Y4, Y5, Y6, Y7, Y8, Y9, Ya, Yb, Yc, Yd, Ye, Yf, Yg, Yh, Yi, Yj, Yk, Yl, Ym, Yn, Yo, Yp, Yq, Yr, Ys, Yt, Yu, Yv, Yw, Yx, Yy, Yz, Z0, Z1, Z2, Z3, Z4, Z5, Z6, Z7, Z8, Z9, Za, Zb, Zc, Zd, Ze, Zf, Zg, Zh, Zi, Zj, Zk, Zl, Zm, Zn, Zo, Zp, Zq, Zr, Zs, Zt, Zu, Zv, Zw, Zx, Zy, Zz, V0, V1, V2, V3, V4, V5, V6, V7, V8, V9, Va, Vb, Vc, Vd, Ve, Vf, exists_eq_left', exists_eq_left, Vi, Vj, Vk, Vl, Vm, exists_and_left, Vo, and_true, true_and, if_true, if_false, decide_eq_true_eq, Vu, Vv, Vw, Vx, decide_eq_false_iff_not, reduceCtorEq, not_true_eq_false, not_false_eq_true, decide_true, decide_false]
      refine ⟨.inl ⟨by decide, by decide⟩, rd_ixT (SqT.of htC) (v := .int ke) rfl ⟨ke, rfl, ?_⟩⟩
      rw [if_neg (by rw [show ((i + 1 : Nat) : Int) = (i : Int) + 1 by omega]; exact fun y => y rfl)]
      refine ⟨SC, _, fr, Int.le_refl _, twC.alike (fun j hj => ?_), hqC, htC⟩
      by_cases e : j = i
      · subst e
        rw [atS_same, if_pos (Nat.lt_succ_self j)]
      · rw [atS_ne e, atS_ne e]
        by_cases e2 : j < i
        · rw [if_pos e2, if_pos (by omega)]
        · rw [if_neg e2, if_neg (by omega)]
    · rintro σ H6 ⟨S1, Sk', c, v12, rfl, hc6, tw6, hq6, ht6⟩
      refine k1 _ _ ?_
      clear k1 R
      rw [Int.toNat_natCast] at tw6
      clear twB htB hqn
      refine seq_step fun R k1 => ?_
      try simp only [Y0, Y1, Y2, Y3, Y4, Y5, Y6, Y7, Y8, Y9, Ya, Yb, Yc, Yd, Ye, Yf, Yg, Yh, Yi, Yj, Yk, Yl, Ym, Yn, Yo, Yp, Yq, Yr, Ys, Yt, Yu, Yv, Yw, Yx, Yy, Yz, Z0, Z1, Z2, Z3, Z4, Z5, Z6, Z7, Z8, Z9, Za, Zb, Zc, Zd, Ze, Zf, Zg, Zh, Zi, Zj, Zk, Zl, Zm, Zn, Zo, Zp, Zq, Zr, Zs, Zt, Zu, Zv, Zw, Zx, Zy, Zz, V0, V1, V2, V3, V4, V5, V6, V7, V8, V9, Va, Vb, Vc, Vd, Ve, Vf, exists_eq_left', exists_eq_left, Vi, Vj, Vk, Vl, Vm, exists_and_left, Vo, and_true, true_and, if_true, if_false, decide_eq_true_eq, Vu, Vv, Vw, Vx, decide_eq_false_iff_not, reduceCtorEq, not_true_eq_false, not_false_eq_true, decide_true, decide_false]
      have hcu : ((List.range ks.length).filter fun j => decide (fr < if j < ka then 500 + le else 500)).length = ka := cnt ka2 fun j hj => by
        by_cases e : j < ka
        · rw [if_pos e]
          exact ⟨fun _ => e, fun _ => by omega⟩
        · rw [if_neg e]
          exact ⟨fun y => by omega, fun y => absurd y e⟩
      obtain ⟨dx, fs, hp, _, _, _, l4, _⟩ := tw6.one.meth
      refine rd_meth hp l4 ⟨p1, S1, ke, le, _, fr, 0, p1, 0, 0, rfl, tw6.one, by omega, by omega, (by show (1 : Int) < 1000; decide), sfr, ⟨by decide, by decide⟩, sle, (fun e => absurd e (by decide)), fun HA SA fA hkA => ?_⟩
      rw [hst_until (v := 500 + le) (k := ka) (by omega) hcu ka1 (by omega) (fun j hj y => by
        by_cases e : j < ka
        · rw [if_pos e]
        · rw [if_neg e] at y
          omega)] at hkA ⊢
      refine out_int ?_
      have twA := tw6.put1 fA hkA
      have fxA := tw6.fam.fx (i := 2) fA
      have hqA := fxA _ _ hq6 fx_tup
      have htA := fxA _ _ ht6 fx_tup
      refine rd_ixT (SqT.of htA) (v := .int le) rfl ⟨le, rfl, ?_⟩
      rw [rNe_int]
      refine ⟨false, (by simp), ?_⟩
      rw [if_neg (by decide)]
      obtain ⟨dx, fs, hp, _, _, l3, _⟩ := twA.one.meth
      refine rd_meth hp l3 (rd_ixT (SqT.of htA) (v := .int le) rfl ⟨le, rfl, ⟨p1, SA, ke, le, _, 499 + le, 0, p1, 0, 0, rfl, twA.one, by omega, by omega, (by show (1 : Int) < 1000; decide), ⟨by omega, by omega⟩, ⟨by decide, by decide⟩, sle, (fun e => absurd e (by decide)), fun HC SC fC hkC => ?_⟩⟩)
      have hcv : ((List.range ks.length).filter fun j => decide (499 + le < if j < ka then 500 + le else 500)).length = ka := cnt ka2 fun j hj => by
        by_cases e : j < ka
        · rw [if_pos e]
          exact ⟨fun _ => e, fun _ => by omega⟩
        · rw [if_neg e]
          exact ⟨fun y => by omega, fun y => absurd y e⟩
      rw [hst_holds (k := ka) (by omega) hcv] at hkC ⊢
      refine out_bl ⟨_, rfl, ?_⟩
      rw [if_neg (by rw [decide_eq_true ka1]; decide)]
      refine k1 _ _ ?_
      clear k1 R
      have twC := twA.put1 fC hkC
      have fxC := twA.fam.fx (i := 2) fC
      have hqC := fxC _ _ hqA fx_tup
      have htC := fxC _ _ htA fx_tup
      clear tw6 hq6 ht6 fA hkA twA fxA hqA htA fC hkC fxC hp l3 l4
      refine seq_step fun R k1 => ?_
      try simp only [Y0, Y1, Y2, Y3, Y4, Y5, Y6, Y7, Y8, Y9, Ya, Yb, Yc, Yd, Ye, Yf, Yg, Yh, Yi, Yj, Yk, Yl, Ym, Yn, Yo, Yp, Yq, Yr, Ys, Yt, Yu, Yv, Yw, Yx, Yy, Yz, Z0, Z1, Z2, Z3, Z4, Z5, Z6, Z7, Z8, Z9, Za, Zb, Zc, Zd, Ze, Zf, Zg, Zh, Zi, Zj, Zk, Zl, Zm, Zn, Zo, Zp, Zq, Zr, Zs, Zt, Zu, Zv, Zw, Zx, Zy, Zz, V0, V1, V2, V3, V4, V5, V6, V7, V8, V9, Va, Vb, Vc, Vd, Ve, Vf, exists_eq_left', exists_eq_left, Vi, Vj, Vk, Vl, Vm, exists_and_left, Vo, and_true, true_and, if_true, if_false, decide_eq_true_eq, Vu, Vv, Vw, Vx, decide_eq_false_iff_not, reduceCtorEq, not_true_eq_false, not_false_eq_true, decide_true, decide_false]
      refine ⟨Sa, Ta, pl, ks, wt, ke, le, p1, SC, _, p2, S9, _, Sk', _, ck + wt - 1, 2, -499, rfl, twC, by omega, by omega, (by show (0 : Int) ≤ 1; decide), (by show (1 : Int) < 900; decide), ⟨by omega, by omega⟩, ⟨by decide, by decide⟩, sle, fun j hj => ?_, (by show ¬ (-499 : Int) < -500; decide), fun HD SD SkD q2 py twD fxD hpyD => k1 _ _ ?_⟩
      · try dsimp only
        by_cases e : j < ka
        · rw [if_pos e]
          try dsimp only
          omega
        · rw [if_neg e]
          try dsimp only
          omega
      clear k1 R
      have d2 : ∀ j, due (if j < ka then ⟨ck, ck + wt, some ⟨1, qn, 0, 0⟩⟩ else ⟨wt - 1, wt, none⟩) wt 0 (ck + wt - 1) 2 q2 0 1 = if j < ka then (.bl false, ⟨ck + wt - 1, ck + wt, some ⟨1, qn, 0, 0⟩⟩) else (.bl true, ⟨ck + wt - 1, ck + wt - 1 + wt, some ⟨2, q2, 0, 1⟩⟩) := fun j => by
        by_cases e : j < ka
        · rw [if_pos e, if_pos e]
          exact due_other (by omega) (by omega) (by show (1 : Int) ≠ 2; decide)
        · rw [if_neg e, if_neg e]
          exact due_over (by omega) (by omega)
      have y2 : yess wt (fun j => if j < ka then ⟨ck, ck + wt, some ⟨1, qn, 0, 0⟩⟩ else ⟨wt - 1, wt, none⟩) (ck + wt - 1) 2 q2 0 1 ks.length = (List.range (ks.length - ka)).map fun i => ka + i := by
        unfold yess
        refine filter_ge ka2 fun j hj => ?_
        rw [d2]
        by_cases e : j < ka
        · rw [if_pos e]
          exact ⟨fun y => absurd y (by show ¬ yes (.bl false) = true; decide), fun y => absurd y (by omega)⟩
        · rw [if_neg e]
          exact ⟨fun _ => by omega, fun _ => by show yes (.bl true) = true; decide⟩
      have twE : Two t HD Sa Ta pl ks wt ke le p1 SC (hst (499 + le) 500 1 (fun x y => if x = 0 ∧ y = 0 then some 500 else none) ks.length fun j => if j < ka then 500 + le else 500) p2 SD (heard ke le (hdue ke le (hst (-500) (-500) 1 (fun x y => if x = 0 ∧ y = 0 then some (-500) else none) ks.length fun _ => -500) 0 (-499) 0 0 0).2 (-499) 0 1 (yess wt (fun j => if j < ka then ⟨ck, ck + wt, some ⟨1, qn, 0, 0⟩⟩ else ⟨wt - 1, wt, none⟩) (ck + wt - 1) 2 q2 0 1 ks.length)) SkD
          (fun j => if j < ka then ⟨ck + wt - 1, ck + wt, some ⟨1, qn, 0, 0⟩⟩ else ⟨ck + wt - 1, ck + wt - 1 + wt, some ⟨2, q2, 0, 1⟩⟩) := twD.alike fun j hj => by
        rw [if_pos hj]
        show (due (if j < ka then ⟨ck, ck + wt, some ⟨1, qn, 0, 0⟩⟩ else ⟨wt - 1, wt, none⟩) wt 0 (ck + wt - 1) 2 q2 0 1).2 = _
        rw [d2]
        by_cases e : j < ka
        · rw [if_pos e, if_pos e]
        · rw [if_neg e, if_neg e]
      have hpyE : HD py = some (.lst (((yess wt (fun j => if j < ka then ⟨ck, ck + wt, some ⟨1, qn, 0, 0⟩⟩ else ⟨wt - 1, wt, none⟩) (ck + wt - 1) 2 q2 0 1 ks.length).map fun (i : Nat) => V.int (i : Int)))) := hpyD
      rw [hst_ask (by decide), y2, hst_heard (x := -499) hnn (fun i hi => by
        obtain ⟨j, hj, rfl⟩ := List.mem_map.mp hi
        have := List.mem_range.mp hj
        omega) (if_pos ⟨rfl, rfl⟩), hst_congr (c := -499) (fi := -500) (f' := fun j => if ka ≤ j then -499 + le else -500) (fun j hj => by
        by_cases e : ka ≤ j
        · rw [if_pos (List.mem_map.mpr ⟨j - ka, List.mem_range.mpr (by omega), by omega⟩), if_pos e]
          omega
        · rw [if_neg (fun y => by
            obtain ⟨i, hi, e2⟩ := List.mem_map.mp y
            omega), if_neg e])] at twE
      rw [y2, map_nat, range_from hnn rfl] at hpyE
      have htE := fxD _ _ htC fx_tup
      have hqE := fxD _ _ hqC fx_tup
      clear twD hpyD twC htC hqC fxD y2 d2
      refine seq_step fun R k1 => ?_
      try simp only [Y0, Y1, Y2, Y3, Y4, Y5, Y6, Y7, Y8, Y9, Ya, Yb, Yc, Yd, Ye, Yf, Yg, Yh, Yi, Yj, Yk, Yl, Ym, Yn, Yo, Yp, Yq, Yr, Ys, Yt, Yu, Yv, Yw, Yx, Yy, Yz, Z0, Z1, Z2, Z3, Z4, Z5, Z6, Z7, Z8, Z9, Za, Zb, Zc, Zd, Ze, Zf, Zg, Zh, Zi, Zj, Zk, Zl, Zm, Zn, Zo, Zp, Zq, Zr, Zs, Zt, Zu, Zv, Zw, Zx, Zy, Zz, V0, V1, V2, V3, V4, V5, V6, V7, V8, V9, Va, Vb, Vc, Vd, Ve, Vf, exists_eq_left', exists_eq_left, Vi, Vj, Vk, Vl, Vm, exists_and_left, Vo, and_true, true_and, if_true, if_false, decide_eq_true_eq, Vu, Vv, Vw, Vx, decide_eq_false_iff_not, reduceCtorEq, not_true_eq_false, not_false_eq_true, decide_true, decide_false]
      refine rd_ixT (SqT.of htE) (v := .int ke) rfl ?_
      refine ⟨(ka : Int), ke, .inr rfl, ⟨by omega, by omega, by omega, by omega⟩, fun pg hpg => ⟨pg, (ka : Int), ke, rfl, upd_same, ⟨by omega, by omega, by omega, by omega⟩, by omega, fun pz hpz => ?_⟩⟩
      have sG : Same HD (upd (upd HD pg (.rng (ka : Int) ke)) pz (.lst ((rngL (ka : Int) (ke - (ka : Int)).toNat).map V.int))) := fun x o e => by
        have e1 := same_upd (o := .rng (ka : Int) ke) hpg _ _ e
        rw [upd_ne (ne_of_none e1 hpz)]
        exact e1
      refine rd_neL (ne_of_none (same_upd hpg _ _ hpyE) hpz) (sG _ _ hpyE) upd_same ⟨false, rfl, ?_⟩
      rw [if_neg (by decide)]
      have twF := twE.same sG
      have htF := sG _ _ htE
      have hqF := sG _ _ hqE
      generalize upd (upd HD pg (.rng (ka : Int) ke)) pz (.lst ((rngL (ka : Int) (ke - (ka : Int)).toNat).map V.int)) = HF at twF htF hqF ⊢
      clear sG twE htE hqE hpyE hpg hpz
      obtain ⟨dx, fs, hp, _, _, l3, _⟩ := twF.other.meth
      refine rd_meth hp l3 ⟨p2, SD, ke, le, _, -499, 0, p2, 0, 0, rfl, twF.other, by omega, by omega, (by show (2 : Int) < 1000; decide), ⟨by decide, by decide⟩, ⟨by decide, by decide⟩, sle, (fun e => absurd e (by decide)), fun HG SG fG hkG => ?_⟩
      have hcG : ((List.range ks.length).filter fun j => decide (-499 < if ka ≤ j then -499 + le else -500)).length = ks.length - ka := cnt_ge ka2 fun j hj => by
        by_cases e : ka ≤ j
        · rw [if_pos e]
          exact ⟨fun _ => e, fun _ => by omega⟩
        · rw [if_neg e]
          exact ⟨fun y => by omega, fun y => absurd y e⟩
      rw [hst_holds (k := ks.length - ka) (by decide) hcG] at hkG ⊢
      rw [show decide (ke < 2 * ((ks.length - ka : Nat) : Int)) = false from decide_eq_false (by omega)]
      refine out_bl ⟨false, rfl, ?_⟩
      rw [if_neg (by decide)]
      refine k1 _ _ ?_
      clear k1 R
      have twG := twF.put2 fG hkG
      have fxG := twF.fam.fx (i := 3) fG
      have htG := fxG _ _ htF fx_tup
      have hqG := fxG _ _ hqF fx_tup
      clear twF htF hqF fG hkG fxG hp l3 hcG
      have b0 := Int.emod_nonneg i4 (show (2 : Int) ≠ 0 by decide)
      have b1 := Int.emod_lt_of_pos i4 (show (0 : Int) < 2 by decide)
      generalize i4 % 2 = bf at b0 b1 ⊢
      refine seq_step fun R k1 => ?_
      -- the end of it, from where all keepers say yes
      have tail : ∀ (HF : Hp) (S1 : List Addr) (h1 : HW) (Sk : Nat → List Addr) (kw4 : Nat → KW) (v9 v14 : Option V), Two t HF Sa Ta pl ks wt ke le p1 S1 h1 p2 SG (hst (-499) (-500) 2 (fun x y => if x = 0 ∧ y = 1 then some (-499) else if x = 0 ∧ y = 0 then some (-500) else none) ks.length fun j => if ka ≤ j then -499 + le else -500) Sk kw4 → HF tp = some (.tup [.int lo, .int hi, .int le, .int ke]) →
          (∀ j, j < ks.length → ¬ ck + wt - 1 + bf < (kw4 j).c ∧ ∀ q, (due (kw4 j) wt 0 (ck + wt - 1 + bf) 2 q 0 2).1 = .bl true) → R [some (.ref a), some (.ref tp), some (.ref tm), some (.int wt), some (.ref pl), some (.ref p1), some (.ref p2), some (.int bf), some (.int ck), v9, some (.int fr), some (.int (ka : Int)), v12, some (.ref py), v14] HF := by
        intro HF S1 h1 Sk kw4 v9 v14 twF htF hy
        refine k1 _ _ ?_
        clear k1 R twG htG hqG
        refine seq_step fun R k1 => ?_
        try simp only [Y0, Y1, Y2, Y3, Y4, Y5, Y6, Y7, Y8, Y9, Ya, Yb, Yc, Yd, Ye, Yf, Yg, Yh, Yi, Yj, Yk, Yl, Ym, Yn, Yo, Yp, Yq, Yr, Ys, Yt, Yu, Yv, Yw, Yx, Yy, Yz, Z0, Z1, Z2, Z3, Z4, Z5, Z6, Z7, Z8, Z9, Za, Zb, Zc, Zd, Ze, Zf, Zg, Zh, Zi, Zj, Zk, Zl, Zm, Zn, Zo, Zp, Zq, Zr, Zs, Zt, Zu, Zv, Zw, Zx, Zy, Zz, V0, V1, V2, V3, V4, V5, V6, V7, V8, V9, Va, Vb, Vc, Vd, Ve, Vf, exists_eq_left', exists_eq_left, Vi, Vj, Vk, Vl, Vm, exists_and_left, Vo, and_true, true_and, if_true, if_false, decide_eq_true_eq, Vu, Vv, Vw, Vx, decide_eq_false_iff_not, reduceCtorEq, not_true_eq_false, not_false_eq_true, decide_true, decide_false]
        refine ⟨Sa, Ta, pl, ks, wt, ke, le, p1, S1, h1, p2, SG, _, Sk, kw4, ck + wt - 1 + bf, 2, -499, rfl, twF, by omega, by omega, (by show (0 : Int) ≤ 2; decide), (by show (2 : Int) < 900; decide), ⟨by omega, by omega⟩, ⟨by decide, by decide⟩, sle, fun j hj => (hy j hj).1, (by show ¬ (-499 : Int) < -499; decide), fun HI SI SkI q3 pw twI fxI hpwI => k1 _ _ ?_⟩
        clear k1 R
        have y3 : yess wt kw4 (ck + wt - 1 + bf) 2 q3 0 2 ks.length = List.range ks.length := by
          unfold yess
          refine filter_lt (Nat.le_refl _) fun j hj => ⟨fun _ => hj, fun _ => ?_⟩
          rw [(hy j hj).2 q3]
          decide
        have oI : HAt t HI p2 SI ke le (heard ke le (hdue ke le (hst (-499) (-500) 2 (fun x y => if x = 0 ∧ y = 1 then some (-499) else if x = 0 ∧ y = 0 then some (-500) else none) ks.length fun j => if ka ≤ j then -499 + le else -500) 0 (-499) 0 0 0).2 (-499) 0 2 (yess wt kw4 (ck + wt - 1 + bf) 2 q3 0 2 ks.length)) := twI.other
        have hpwI : HI pw = some (.lst (((yess wt kw4 (ck + wt - 1 + bf) 2 q3 0 2 ks.length).map fun (i : Nat) => V.int (i : Int)))) := hpwI
        rw [hst_ask (by decide), y3, hst_heard (x := -499) hnn (fun i hi => List.mem_range.mp hi) (if_pos ⟨rfl, rfl⟩), hst_congr (f' := fun _ => -499 + le) (fun j hj => by
          rw [if_pos (List.mem_range.mpr hj)]
          by_cases e : ka ≤ j
          · rw [if_pos e]
            omega
          · rw [if_neg e]
            omega)] at oI
        rw [y3, map_nat, range_ints hnn] at hpwI
        have htI := fxI _ _ htF fx_tup
        try simp only [Y0, Y1, Y2, Y3, Y4, Y5, Y6, Y7, Y8, Y9, Ya, Yb, Yc, Yd, Ye, Yf, Yg, Yh, Yi, Yj, Yk, Yl, Ym, Yn, Yo, Yp, Yq, Yr, Ys, Yt, Yu, Yv, Yw, Yx, Yy, Yz, Z0, Z1, Z2, Z3, Z4, Z5, Z6, Z7, Z8, Z9, Za, Zb, Zc, Zd, Ze, Zf, Zg, Zh, Zi, Zj, Zk, Zl, Zm, Zn, Zo, Zp, Zq, Zr, Zs, Zt, Zu, Zv, Zw, Zx, Zy, Zz, V0, V1, V2, V3, V4, V5, V6, V7, V8, V9, Va, Vb, Vc, Vd, Ve, Vf, exists_eq_left', exists_eq_left, Vi, Vj, Vk, Vl, Vm, exists_and_left, Vo, and_true, true_and, if_true, if_false, decide_eq_true_eq, Vu, Vv, Vw, Vx, decide_eq_false_iff_not, reduceCtorEq, not_true_eq_false, not_false_eq_true, decide_true, decide_false]
        refine rd_ixT (SqT.of htI) (v := .int ke) rfl ⟨0, ke, .inl ⟨rfl, rfl⟩, ⟨by decide, by decide, by omega, by omega⟩, fun pg hpg => ⟨pg, 0, ke, rfl, upd_same, ⟨by decide, by decide, by omega, by omega⟩, by omega, fun pz hpz => ?_⟩⟩
        have sG : Same HI (upd (upd HI pg (.rng 0 ke)) pz (.lst ((rngL 0 (ke - 0).toNat).map V.int))) := fun x o e => by
          have e1 := same_upd (o := .rng 0 ke) hpg _ _ e
          rw [upd_ne (ne_of_none e1 hpz)]
          exact e1
        refine rd_eqL (ne_of_none (same_upd hpg _ _ hpwI) hpz) (sG _ _ hpwI) upd_same ⟨true, rfl, ?_⟩
        rw [if_pos rfl]
        have oJ := oI.frame (fun x o e _ => sG x o e) (fun x o e _ => sG x o e)
        have htJ := sG _ _ htI
        generalize upd (upd HI pg (.rng 0 ke)) pz (.lst ((rngL 0 (ke - 0).toNat).map V.int)) = HJ at oJ htJ ⊢
        have hcJ : ((List.range ks.length).filter fun j => decide (-499 < -499 + le)).length = ks.length := cnt (f := fun _ => -499 + le) (Nat.le_refl _) fun j hj => ⟨fun _ => hj, fun _ => by omega⟩
        obtain ⟨dx, fs, hp, _, _, l3, _⟩ := oJ.meth
        refine rd_meth hp l3 ⟨p2, SI, ke, le, _, -499, 0, p2, 0, 0, rfl, oJ, by omega, by omega, (by show (3 : Int) < 1000; decide), ⟨by decide, by decide⟩, ⟨by decide, by decide⟩, sle, (fun e => absurd e (by decide)), fun HK SK fK hkK => ?_⟩
        rw [hst_holds (k := ks.length) (by decide) hcJ] at hkK ⊢
        rw [show decide (ke < 2 * (ks.length : Int)) = true from decide_eq_true (by omega)]
        refine out_bl ⟨true, rfl, ?_⟩
        rw [if_pos rfl]
        have htK := fK.1 _ _ htJ (fun hx => by
          obtain ⟨o, e, nf⟩ := oJ.some.2 _ hx
          rw [htJ] at e
          cases e
          exact nf fx_tup)
        obtain ⟨dx, fs, hp, _, _, _, l4, _⟩ := hkK.meth
        refine rd_meth hp l4 ⟨p2, SK, ke, le, _, -499, 0, p2, 0, 0, rfl, hkK, by omega, by omega, (by show (3 : Int) < 1000; decide), ⟨by decide, by decide⟩, ⟨by decide, by decide⟩, sle, (fun e => absurd e (by decide)), fun HL SL fL hkL => ?_⟩
        rw [hst_until (v := -499 + le) (k := ks.length) (by decide) hcJ (by omega) (by omega) (fun _ _ _ => rfl)] at hkL ⊢
        refine out_int ?_
        have htL := fL.1 _ _ htK (fun hx => by
          obtain ⟨o, e, nf⟩ := hkK.some.2 _ hx
          rw [htK] at e
          cases e
          exact nf fx_tup)
        refine rd_ixT (SqT.of htL) (v := .int le) rfl ⟨le, rfl, ?_⟩
        rw [rEq_int, decide_eq_true rfl]
        exact q _
      try simp only [Y0, Y1, Y2, Y3, Y4, Y5, Y6, Y7, Y8, Y9, Ya, Yb, Yc, Yd, Ye, Yf, Yg, Yh, Yi, Yj, Yk, Yl, Ym, Yn, Yo, Yp, Yq, Yr, Ys, Yt, Yu, Yv, Yw, Yx, Yy, Yz, Z0, Z1, Z2, Z3, Z4, Z5, Z6, Z7, Z8, Z9, Za, Zb, Zc, Zd, Ze, Zf, Zg, Zh, Zi, Zj, Zk, Zl, Zm, Zn, Zo, Zp, Zq, Zr, Zs, Zt, Zu, Zv, Zw, Zx, Zy, Zz, V0, V1, V2, V3, V4, V5, V6, V7, V8, V9, Va, Vb, Vc, Vd, Ve, Vf, exists_eq_left', exists_eq_left, Vi, Vj, Vk, Vl, Vm, exists_and_left, Vo, and_true, true_and, if_true, if_false, decide_eq_true_eq, Vu, Vv, Vw, Vx, decide_eq_false_iff_not, reduceCtorEq, not_true_eq_false, not_false_eq_true, decide_true, decide_false]
      split
      · rename_i hb
        subst hb
        refine seq_step fun R2 k2 => ?_
        try simp only [Y0, Y1, Y2, Y3, Y4, Y5, Y6, Y7, Y8, Y9, Ya, Yb, Yc, Yd, Ye, Yf, Yg, Yh, Yi, Yj, Yk, Yl, Ym, Yn, Yo, Yp, Yq, Yr, Ys, Yt, Yu, Yv, Yw, Yx, Yy, Yz, Z0, Z1, Z2, Z3, Z4, Z5, Z6, Z7, Z8, Z9, Za, Zb, Zc, Zd, Ze, Zf, Zg, Zh, Zi, Zj, Zk, Zl, Zm, Zn, Zo, Zp, Zq, Zr, Zs, Zt, Zu, Zv, Zw, Zx, Zy, Zz, V0, V1, V2, V3, V4, V5, V6, V7, V8, V9, Va, Vb, Vc, Vd, Ve, Vf, exists_eq_left', exists_eq_left, Vi, Vj, Vk, Vl, Vm, exists_and_left, Vo, and_true, true_and, if_true, if_false, decide_eq_true_eq, Vu, Vv, Vw, Vx, decide_eq_false_iff_not, reduceCtorEq, not_true_eq_false, not_false_eq_true, decide_true, decide_false]
        obtain ⟨dx, fs, hp, _, _, _, _, l5⟩ := twG.one.meth
        refine rd_meth hp l5 (rd_ixT (SqT.of htG) (v := .int le) rfl ⟨le, rfl, ⟨p1, SC, ke, le, _, 499 + le, 0, p1, 0, 0, rfl, twG.one, by omega, by omega, (by show (1 : Int) < 1000; decide), ⟨by omega, by omega⟩, ⟨by decide, by decide⟩, sle, (fun e => absurd e (by decide)), fun HI SI fI hkI => ?_⟩⟩)
        rw [hst_free hnn (by omega) (by decide)] at hkI ⊢
        refine out_pair fun qf hqf => k2 _ _ ?_
        clear k2 R2
        have twI := twG.put1 fI hkI
        have htI := twG.fam.fx (i := 2) fI _ _ htG fx_tup
        clear twG htG hqG fI hkI hp l5
        refine seq_step fun R2 k2 => ?_
        try simp only [Y0, Y1, Y2, Y3, Y4, Y5, Y6, Y7, Y8, Y9, Ya, Yb, Yc, Yd, Ye, Yf, Yg, Yh, Yi, Yj, Yk, Yl, Ym, Yn, Yo, Yp, Yq, Yr, Ys, Yt, Yu, Yv, Yw, Yx, Yy, Yz, Z0, Z1, Z2, Z3, Z4, Z5, Z6, Z7, Z8, Z9, Za, Zb, Zc, Zd, Ze, Zf, Zg, Zh, Zi, Zj, Zk, Zl, Zm, Zn, Zo, Zp, Zq, Zr, Zs, Zt, Zu, Zv, Zw, Zx, Zy, Zz, V0, V1, V2, V3, V4, V5, V6, V7, V8, V9, Va, Vb, Vc, Vd, Ve, Vf, exists_eq_left', exists_eq_left, Vi, Vj, Vk, Vl, Vm, exists_and_left, Vo, and_true, true_and, if_true, if_false, decide_eq_true_eq, Vu, Vv, Vw, Vx, decide_eq_false_iff_not, reduceCtorEq, not_true_eq_false, not_false_eq_true, decide_true, decide_false]
        obtain ⟨dx, fs, hp, _, _, l3, _⟩ := twI.one.meth
        refine rd_meth hp l3 (rd_ixT (SqT.of htI) (v := .int le) rfl ⟨le, rfl, ⟨p1, SI, ke, le, _, 499 + le, 0, p1, 0, 0, rfl, twI.one, by omega, by omega, (by show (1 : Int) < 1000; decide), ⟨by omega, by omega⟩, ⟨by decide, by decide⟩, sle, (fun e => absurd e (by decide)), fun HJ SJ fJ hkJ => ?_⟩⟩)
        rw [hst_holds (k := 0) (by omega) (cnt (Nat.zero_le _) fun j hj => ⟨fun y => absurd y (by omega), fun y => absurd y (Nat.not_lt_zero _)⟩)] at hkJ ⊢
        rw [show decide (ke < 2 * ((0 : Nat) : Int)) = false from decide_eq_false (by omega)]
        refine out_bl ⟨false, rfl, ?_⟩
        rw [if_neg (by decide)]
        refine k2 _ _ ?_
        clear k2 R2
        have twJ := twI.put1 fJ hkJ
        have fxJ := twI.fam.fx (i := 2) fJ
        have htJ := fxJ _ _ htI fx_tup
        have hqJ := fxJ _ _ hqf fx_tup
        clear twI htI hqf fJ hkJ fxJ hp l3
        refine for_step fun B kB => ?_
        try simp only [Y0, Y1, Y2, Y3, Y4, Y5, Y6, Y7, Y8, Y9, Ya, Yb, Yc, Yd, Ye, Yf, Yg, Yh, Yi, Yj, Yk, Yl, Ym, Yn, Yo, Yp, Yq, Yr, Ys, Yt, Yu, Yv, Yw, Yx, Yy, Yz, Z0, Z1, Z2, Z3, Z4, Z5, Z6, Z7, Z8, Z9, Za, Zb, Zc, Zd, Ze, Zf, Zg, Zh, Zi, Zj, Zk, Zl, Zm, Zn, Zo, Zp, Zq, Zr, Zs, Zt, Zu, Zv, Zw, Zx, Zy, Zz, V0, V1, V2, V3, V4, V5, V6, V7, V8, V9, Va, Vb, Vc, Vd, Ve, Vf, exists_eq_left', exists_eq_left, Vi, Vj, Vk, Vl, Vm, exists_and_left, Vo, and_true, true_and, if_true, if_false, decide_eq_true_eq, Vu, Vv, Vw, Vx, decide_eq_false_iff_not, reduceCtorEq, not_true_eq_false, not_false_eq_true, decide_true, decide_false, iList]
        refine ⟨⟨_, SqL.of twJ.list⟩, kB _ _ ?_⟩
        clear kB B
        refine for_list (xs := ks.map V.ref) (fun i σ H6 => ∃ (Sk' : Nat → List Addr) (v14 : Option V), σ = [some (.ref a), some (.ref tp), some (.ref tm), some (.int wt), some (.ref pl), some (.ref p1), some (.ref p2), some (.int 0), some (.int ck), some (.ref qf), some (.int fr), some (.int (ka : Int)), v12, some (.ref py), v14] ∧
          Two t H6 Sa Ta pl ks wt ke le p1 SJ (hst (499 + le) 500 1 (fun _ _ => none) ks.length fun _ => 500) p2 SG (hst (-499) (-500) 2 (fun x y => if x = 0 ∧ y = 1 then some (-499) else if x = 0 ∧ y = 0 then some (-500) else none) ks.length fun j => if ka ≤ j then -499 + le else -500) Sk'
            (fun j => if j < ka then ⟨ck + wt - 1, if j < i then ck + wt - 1 else ck + wt, some ⟨1, qn, 0, 0⟩⟩ else ⟨ck + wt - 1, ck + wt - 1 + wt, some ⟨2, q2, 0, 1⟩⟩) ∧
          H6 qf = some (.tup [.int 0, .int (1 - 1)]) ∧ H6 tp = some (.tup [.int lo, .int hi, .int le, .int ke])) ?_ ?_ ?_ ?_
        · exact ⟨SkD, _, rfl, twJ.alike (fun j _ => by rw [if_neg (Nat.not_lt_zero j)]), hqJ, htJ⟩
        · rintro i σ H6 _ ⟨Sk', v14, rfl, tw6, _⟩
          exact SqL.of tw6.list
        · rintro i x σ H6 hx ⟨Sk', v14, rfl, tw6, hq6, ht6⟩
          clear tail k1 twJ htJ hqJ
          rw [List.getElem?_map] at hx
          cases ex : ks[i]? with
          | none => rw [ex] at hx; cases hx
          | some p =>
            rw [ex] at hx
            cases hx
            have hk6 := tw6.keeper ex
            rw [if_neg (Nat.lt_irrefl i)] at hk6
            dsimp only [gName]
            try simp only [Y0, Y1, Y2, Y3, Y4, Y5, Y6, Y7, Y8, Y9, Ya, Yb, Yc, Yd, Ye, Yf, Yg, Yh, Yi, Yj, Yk, Yl, Ym, Yn, Yo, Yp, Yq, Yr, Ys, Yt, Yu, Yv, Yw, Yx, Yy, Yz, Z0, Z1, Z2, Z3, Z4, Z5, Z6, Z7, Z8, Z9, Za, Zb, Zc, Zd, Ze, Zf, Zg, Zh, Zi, Zj, Zk, Zl, Zm, Zn, Zo, Zp, Zq, Zr, Zs, Zt, Zu, Zv, Zw, Zx, Zy, Zz, V0, V1, V2, V3, V4, V5, V6, V7, V8, V9, Va, Vb, Vc, Vd, Ve, Vf, exists_eq_left', exists_eq_left, Vi, Vj, Vk, Vl, Vm, exists_and_left, Vo, and_true, true_and, if_true, if_false, decide_eq_true_eq, Vu, Vv, Vw, Vx, decide_eq_false_iff_not, reduceCtorEq, not_true_eq_false, not_false_eq_true, decide_true, decide_false]
            obtain ⟨dx, fs, hp, _, m2, _⟩ := hk6.meth
            refine rd_meth hp m2 ⟨p, Sk' i, wt, _, ck + wt - 1, 1, qf, 0, 1 - 1, rfl, hk6, ⟨by omega, by omega⟩, (fun _ => hq6), fun H7 S7 f7 hk7 => ?_⟩
            have fx7 := tw6.fam.fx (i := i + 4) f7
            have hq7 := fx7 _ _ hq6 fx_tup
            have ht7 := fx7 _ _ ht6 fx_tup
            by_cases e : i < ka
            · rw [if_pos e] at hk7 ⊢
              rw [due_freed (by omega) rfl (by unfold ltN; show ¬ ((0 : Int) < 0 ∨ (0 : Int) = 0 ∧ (1 - 1 : Int) < 0); decide)] at hk7 ⊢
              refine outk_non ⟨_, (tw6.putK ex f7 hk7).alike (fun j hj => ?_), hq7, ht7⟩
              by_cases ej : j = i
              · subst ej
                rw [atS_same, if_pos e, if_pos (Nat.lt_succ_self j), show min (ck + wt) (ck + wt - 1) = ck + wt - 1 by omega]
              · rw [atS_ne ej]
                by_cases e2 : j < i
                · rw [if_pos e2, if_pos (show j < i + 1 by omega)]
                · rw [if_neg e2, if_neg (show ¬ j < i + 1 by omega)]
            · rw [if_neg e] at hk7 ⊢
              rw [due_freed_other (by omega) (by show (2 : Int) ≠ 1; decide)] at hk7 ⊢
              refine outk_non ⟨_, (tw6.putK ex f7 hk7).alike (fun j hj => ?_), hq7, ht7⟩
              by_cases ej : j = i
              · subst ej
                rw [atS_same, if_neg e]
              · rw [atS_ne ej]
                by_cases e2 : j < i
                · rw [if_pos e2, if_pos (show j < i + 1 by omega)]
                · rw [if_neg e2, if_neg (show ¬ j < i + 1 by omega)]
        · rintro σ H6 ⟨Sk', v14, rfl, tw6, hq6, ht6⟩
          rw [List.length_map] at tw6
          refine tail H6 SJ _ Sk' _ _ _ tw6 ht6 fun j hj => ?_
          by_cases e : j < ka
          · rw [if_pos e, if_pos hj]
            exact ⟨by try dsimp only
                      omega, fun q => by rw [due_over (by omega) (by omega)]⟩
          · rw [if_neg e]
            exact ⟨by try dsimp only
                      omega, fun q => by rw [due_newer (by omega) (by omega) rfl (by unfold ltN; show ¬ ((0 : Int) < 0 ∨ (0 : Int) = 0 ∧ (2 : Int) < 1); decide) (by show ¬ ((0 : Int) = 0 ∧ (2 : Int) = 1); decide)]⟩
      · rename_i hb
        obtain rfl : bf = 1 := by omega
        obtain ⟨dx, fs, hp, _, _, l3, _⟩ := twG.one.meth
        refine rd_meth hp l3 (rd_ixT (SqT.of htG) (v := .int le) rfl ⟨le, rfl, ⟨p1, SC, ke, le, _, 500 + le, 0, p1, 0, 0, rfl, twG.one, by omega, by omega, (by show (1 : Int) < 1000; decide), ⟨by omega, by omega⟩, ⟨by decide, by decide⟩, sle, (fun e => absurd e (by decide)), fun HJ SJ fJ hkJ => ?_⟩⟩)
        rw [hst_holds (k := 0) (by omega) (cnt (Nat.zero_le _) fun j hj => ⟨fun y => absurd y (by split <;> omega), fun y => absurd y (Nat.not_lt_zero _)⟩)] at hkJ ⊢
        rw [show decide (ke < 2 * ((0 : Nat) : Int)) = false from decide_eq_false (by omega)]
        refine out_bl ⟨false, rfl, ?_⟩
        rw [if_neg (by decide)]
        have twJ := twG.put1 fJ hkJ
        have htJ := twG.fam.fx (i := 2) fJ _ _ htG fx_tup
        refine tail HJ SJ _ SkD _ _ _ twJ htJ fun j hj => ?_
        by_cases e : j < ka
        · rw [if_pos e]
          exact ⟨by try dsimp only
                    omega, fun q => by rw [due_over (by omega) (by omega)]⟩
        · rw [if_neg e]
          refine ⟨by try dsimp only
                     omega, fun q => ?_⟩
          by_cases e2 : ck + wt - 1 + 1 < ck + wt - 1 + wt
          · rw [due_newer (by omega) e2 rfl (by unfold ltN; show ¬ ((0 : Int) < 0 ∨ (0 : Int) = 0 ∧ (2 : Int) < 1); decide) (by show ¬ ((0 : Int) = 0 ∧ (2 : Int) = 1); decide)]
          · rw [due_over (by omega) e2]
end
theorem walk {l : PySem.W.OpenLaw} {q : Program} {loose : List Str} {XP : (Str → Option Value) → Heap → Prop} {YP : World → Heap → Prop} {d : DefRec} {K : Params → PySem.W.Frag} (hn : l.most = some 63) (hdf : d.params.defaults = []) (hnm : d.name = "law")
    (hY : ∀ (w : World) (h : Heap), YP w h → (K w.params).In h)
    (F : ∀ (w : World) (mg : Str → Option Value) (h : Heap), (K w.params).In h → h.Ns mainGlobals mg → ∃ t : Adr, Txt (K w.params) mg t) :
    PySem.W.WalkO q loose XP YP l.row.toRowW d [] (fun f vs => PySem.call f vs) := by
  refine L2.walk_of (n := 63) (k := 5) (x := "_law_script") (CX := fun _ => CX0) (sp := fun w => sp_law (K w.params)) hn (by decide) hdf ⟨rfl, by decide, by decide⟩ hY (fun w mg fa h KX G hfa => ?_) (fun _ _ a ns hl _ hS => ⟨a, ns, rfl, hS, hl, fun _ => rfl⟩) fun _ _ _ _ _ z => z
  obtain ⟨t, T⟩ := F w mg h KX G
  rw [hnm] at hfa
  have e := hfa.symm.trans T.m_law
  cases e
  obtain ⟨oc, od, kV, doc, pm, an, cdv, ct, osl, e, lk, hcd⟩ := T.F_law.ex
  refine ⟨t.d_law, fun s v => ?_, fun base _ _ => ok_law T⟩
  rw [e]
  exact .of_eq rfl
end K11
open PySem PySem.W PyProof.Rows
set_option maxRecDepth 100000 in
set_option maxHeartbeats 0 in
theorem PySem.Challenge.cw_leasehold_k11_alone_holds : PySem.Challenge.rw_leasehold_k11_alone.Holds := by
  w_on; o_law; k_head; (case hw => w_witness2)
  k_fill
  refine K11.walk (l := PySem.Challenge.rw_leasehold_k11_alone) rfl rfl rfl (fun w h Y => PySem.W.kIn_of Y) ?F
  case F =>
    intro w mg h KX G
    refine' K11.txt_mk KX G ?a_Keeper ?a_Holder ?a_Terms ?a_gone_on ?l_gone_on ?c_gone_on ?p_gone_on ?a_Keeper_init ?i_Keeper_init ?l_Keeper_init ?c_Keeper_init ?p_Keeper_init ?a_Keeper_asked ?i_Keeper_asked ?l_Keeper_asked ?c_Keeper_asked ?p_Keeper_asked ?a_Keeper_freed ?i_Keeper_freed ?l_Keeper_freed ?c_Keeper_freed ?p_Keeper_freed ?a_Keeper_let_to ?i_Keeper_let_to ?l_Keeper_let_to ?c_Keeper_let_to ?p_Keeper_let_to ?a_Holder_init ?i_Holder_init ?l_Holder_init ?c_Holder_init ?p_Holder_init ?a_Holder_ask ?i_Holder_ask ?l_Holder_ask ?c_Holder_ask ?p_Holder_ask ?a_Holder_forget_over ?i_Holder_forget_over ?l_Holder_forget_over ?c_Holder_forget_over ?p_Holder_forget_over ?a_Holder_hear ?i_Holder_hear ?l_Holder_hear ?c_Holder_hear ?p_Holder_hear ?a_Holder_holds ?i_Holder_holds ?l_Holder_holds ?c_Holder_holds ?p_Holder_holds ?a_Holder_until ?i_Holder_until ?l_Holder_until ?c_Holder_until ?p_Holder_until ?a_Holder_free ?i_Holder_free ?l_Holder_free ?c_Holder_free ?p_Holder_free ?a_refuse_bad_steps ?l_refuse_bad_steps ?c_refuse_bad_steps ?p_refuse_bad_steps ?a_refuse_bad_length ?l_refuse_bad_length ?c_refuse_bad_length ?p_refuse_bad_length ?a_refuse_bad_keepers ?l_refuse_bad_keepers ?c_refuse_bad_keepers ?p_refuse_bad_keepers ?a_Terms_init ?i_Terms_init ?l_Terms_init ?c_Terms_init ?p_Terms_init ?a_Terms_ticks ?i_Terms_ticks ?l_Terms_ticks ?c_Terms_ticks ?p_Terms_ticks ?a_Terms_wait ?i_Terms_wait ?l_Terms_wait ?c_Terms_wait ?p_Terms_wait ?a_Terms_most ?i_Terms_most ?l_Terms_most ?c_Terms_most ?p_Terms_most ?a_law_cell ?l_law_cell ?c_law_cell ?p_law_cell ?a_law_mix ?l_law_mix ?c_law_mix ?p_law_mix ?a_law_terms ?l_law_terms ?c_law_terms ?p_law_terms ?a_law_wait ?l_law_wait ?c_law_wait ?p_law_wait ?a_law_gets ?l_law_gets ?c_law_gets ?p_law_gets ?a_law ?l_law ?c_law ?p_law ?pg_Keeper ?hd_Keeper ?po_Keeper ?sa_Keeper ?mk_Keeper ?kc_Keeper ?nf_Keeper_pause ?nf_Keeper_latest ?nf_Keeper_name ?nf_Keeper_number ?nf_Keeper_over ?pg_Holder ?hd_Holder ?po_Holder ?sa_Holder ?mk_Holder ?kc_Holder ?nf_Holder_length ?nf_Holder_needed ?nf_Holder_name ?nf_Holder_life ?nf_Holder_latest ?nf_Holder_told ?nf_Holder_asks ?nf_Holder_ends ?pg_Terms ?hd_Terms ?po_Terms ?sa_Terms ?mk_Terms ?kc_Terms ?nf_Terms_low ?nf_Terms_high ?nf_Terms_length ?nf_Terms_keepers ?n_LeaseError ?x_LeaseError ?n_BadTerms ?x_BadTerms ?n_Back ?x_Back ?n_NoKeeper ?x_NoKeeper ?n_NotAsked ?x_NotAsked ?e1_BadTerms ?e2_BadTerms ?e3_BadTerms ?e4_BadTerms ?e5_BadTerms ?e6_BadTerms ?e7_BadTerms ?e8_BadTerms ?r_BadTerms_LeaseError ?i_BadTerms_BadTerms ?i_BadTerms_Back ?i_BadTerms_NoKeeper ?i_BadTerms_NotAsked ?i_BadTerms_ValueError ?e1_Back ?e2_Back ?e3_Back ?e4_Back ?e5_Back ?e6_Back ?e7_Back ?e8_Back ?r_Back_LeaseError ?i_Back_BadTerms ?i_Back_Back ?i_Back_NoKeeper ?i_Back_NotAsked ?i_Back_ValueError ?e1_NoKeeper ?e2_NoKeeper ?e3_NoKeeper ?e4_NoKeeper ?e5_NoKeeper ?e6_NoKeeper ?e7_NoKeeper ?e8_NoKeeper ?r_NoKeeper_LeaseError ?i_NoKeeper_BadTerms ?i_NoKeeper_Back ?i_NoKeeper_NoKeeper ?i_NoKeeper_NotAsked ?i_NoKeeper_ValueError ?e1_NotAsked ?e2_NotAsked ?e3_NotAsked ?e4_NotAsked ?e5_NotAsked ?e6_NotAsked ?e7_NotAsked ?e8_NotAsked ?r_NotAsked_LeaseError ?i_NotAsked_BadTerms ?i_NotAsked_Back ?i_NotAsked_NoKeeper ?i_NotAsked_NotAsked ?i_NotAsked_ValueError ?m_MOST_STEP ?m_MOST_LENGTH ?m_MOST_KEEPERS ?z_len ?z_list ?z_max ?z_range ?z_sorted
    (case a_Keeper => k_is)
    (case a_Holder => k_is)
    (case a_Terms => k_is)
    (case a_gone_on => k_is)
    (case l_gone_on => k_is)
    (case c_gone_on => k_is)
    (case p_gone_on => k_is)
    (case a_Keeper_init => k_is)
    (case i_Keeper_init => k_is)
    (case l_Keeper_init => k_is)
    (case c_Keeper_init => k_is)
    (case p_Keeper_init => k_is)
    (case a_Keeper_asked => k_is)
    (case i_Keeper_asked => k_is)
    (case l_Keeper_asked => k_is)
    (case c_Keeper_asked => k_is)
    (case p_Keeper_asked => k_is)
    (case a_Keeper_freed => k_is)
    (case i_Keeper_freed => k_is)
    (case l_Keeper_freed => k_is)
    (case c_Keeper_freed => k_is)
    (case p_Keeper_freed => k_is)
    (case a_Keeper_let_to => k_is)
    (case i_Keeper_let_to => k_is)
    (case l_Keeper_let_to => k_is)
    (case c_Keeper_let_to => k_is)
    (case p_Keeper_let_to => k_is)
    (case a_Holder_init => k_is)
    (case i_Holder_init => k_is)
    (case l_Holder_init => k_is)
    (case c_Holder_init => k_is)
    (case p_Holder_init => k_is)
    (case a_Holder_ask => k_is)
    (case i_Holder_ask => k_is)
    (case l_Holder_ask => k_is)
    (case c_Holder_ask => k_is)
    (case p_Holder_ask => k_is)
    (case a_Holder_forget_over => k_is)
    (case i_Holder_forget_over => k_is)
    (case l_Holder_forget_over => k_is)
    (case c_Holder_forget_over => k_is)
    (case p_Holder_forget_over => k_is)
    (case a_Holder_hear => k_is)
    (case i_Holder_hear => k_is)
    (case l_Holder_hear => k_is)
    (case c_Holder_hear => k_is)
    (case p_Holder_hear => k_is)
    (case a_Holder_holds => k_is)
    (case i_Holder_holds => k_is)
    (case l_Holder_holds => k_is)
    (case c_Holder_holds => k_is)
    (case p_Holder_holds => k_is)
    (case a_Holder_until => k_is)
    (case i_Holder_until => k_is)
    (case l_Holder_until => k_is)
    (case c_Holder_until => k_is)
    (case p_Holder_until => k_is)
    (case a_Holder_free => k_is)
    (case i_Holder_free => k_is)
    (case l_Holder_free => k_is)
    (case c_Holder_free => k_is)
    (case p_Holder_free => k_is)
    (case a_refuse_bad_steps => k_is)
    (case l_refuse_bad_steps => k_is)
    (case c_refuse_bad_steps => k_is)
    (case p_refuse_bad_steps => k_is)
    (case a_refuse_bad_length => k_is)
    (case l_refuse_bad_length => k_is)
    (case c_refuse_bad_length => k_is)
    (case p_refuse_bad_length => k_is)
    (case a_refuse_bad_keepers => k_is)
    (case l_refuse_bad_keepers => k_is)
    (case c_refuse_bad_keepers => k_is)
    (case p_refuse_bad_keepers => k_is)
    (case a_Terms_init => k_is)
    (case i_Terms_init => k_is)
    (case l_Terms_init => k_is)
    (case c_Terms_init => k_is)
    (case p_Terms_init => k_is)
    (case a_Terms_ticks => k_is)
    (case i_Terms_ticks => k_is)
    (case l_Terms_ticks => k_is)
    (case c_Terms_ticks => k_is)
    (case p_Terms_ticks => k_is)
    (case a_Terms_wait => k_is)
    (case i_Terms_wait => k_is)
    (case l_Terms_wait => k_is)
    (case c_Terms_wait => k_is)
    (case p_Terms_wait => k_is)
    (case a_Terms_most => k_is)
    (case i_Terms_most => k_is)
    (case l_Terms_most => k_is)
    (case c_Terms_most => k_is)
    (case p_Terms_most => k_is)
    (case a_law_cell => k_is)
    (case l_law_cell => k_is)
    (case c_law_cell => k_is)
    (case p_law_cell => k_is)
    (case a_law_mix => k_is)
    (case l_law_mix => k_is)
    (case c_law_mix => k_is)
    (case p_law_mix => k_is)
    (case a_law_terms => k_is)
    (case l_law_terms => k_is)
    (case c_law_terms => k_is)
    (case p_law_terms => k_is)
    (case a_law_wait => k_is)
    (case l_law_wait => k_is)
    (case c_law_wait => k_is)
    (case p_law_wait => k_is)
    (case a_law_gets => k_is)
    (case l_law_gets => k_is)
    (case c_law_gets => k_is)
    (case p_law_gets => k_is)
    (case a_law => k_is)
    (case l_law => k_is)
    (case c_law => k_is)
    (case p_law => k_is)
    (case pg_Keeper => k_is)
    (case hd_Keeper => k_is)
    (case po_Keeper => k_is)
    (case sa_Keeper => k_is)
    (case mk_Keeper => k_is)
    (case kc_Keeper => k_is)
    (case nf_Keeper_pause => k_is)
    (case nf_Keeper_latest => k_is)
    (case nf_Keeper_name => k_is)
    (case nf_Keeper_number => k_is)
    (case nf_Keeper_over => k_is)
    (case pg_Holder => k_is)
    (case hd_Holder => k_is)
    (case po_Holder => k_is)
    (case sa_Holder => k_is)
    (case mk_Holder => k_is)
    (case kc_Holder => k_is)
    (case nf_Holder_length => k_is)
    (case nf_Holder_needed => k_is)
    (case nf_Holder_name => k_is)
    (case nf_Holder_life => k_is)
    (case nf_Holder_latest => k_is)
    (case nf_Holder_told => k_is)
    (case nf_Holder_asks => k_is)
    (case nf_Holder_ends => k_is)
    (case pg_Terms => k_is)
    (case hd_Terms => k_is)
    (case po_Terms => k_is)
    (case sa_Terms => k_is)
    (case mk_Terms => k_is)
    (case kc_Terms => k_is)
    (case nf_Terms_low => k_is)
    (case nf_Terms_high => k_is)
    (case nf_Terms_length => k_is)
    (case nf_Terms_keepers => k_is)
    (case n_LeaseError => k_is)
    (case x_LeaseError => k_exc)
    (case n_BadTerms => k_is)
    (case x_BadTerms => k_exc)
    (case n_Back => k_is)
    (case x_Back => k_exc)
    (case n_NoKeeper => k_is)
    (case x_NoKeeper => k_exc)
    (case n_NotAsked => k_is)
    (case x_NotAsked => k_exc)
    (case e1_BadTerms => k_is)
    (case e2_BadTerms => k_is)
    (case e3_BadTerms => k_is)
    (case e4_BadTerms => k_is)
    (case e5_BadTerms => k_is)
    (case e6_BadTerms => k_is)
    (case e7_BadTerms => k_is)
    (case e8_BadTerms => k_is)
    (case r_BadTerms_LeaseError => kts_exm)
    (case i_BadTerms_BadTerms => kit_is)
    (case i_BadTerms_Back => kit_is)
    (case i_BadTerms_NoKeeper => kit_is)
    (case i_BadTerms_NotAsked => kit_is)
    (case i_BadTerms_ValueError => kit_is)
    (case e1_Back => k_is)
    (case e2_Back => k_is)
    (case e3_Back => k_is)
    (case e4_Back => k_is)
    (case e5_Back => k_is)
    (case e6_Back => k_is)
    (case e7_Back => k_is)
    (case e8_Back => k_is)
    (case r_Back_LeaseError => kts_exm)
    (case i_Back_BadTerms => kit_is)
    (case i_Back_Back => kit_is)
    (case i_Back_NoKeeper => kit_is)
    (case i_Back_NotAsked => kit_is)
    (case i_Back_ValueError => kit_is)
    (case e1_NoKeeper => k_is)
    (case e2_NoKeeper => k_is)
    (case e3_NoKeeper => k_is)
    (case e4_NoKeeper => k_is)
    (case e5_NoKeeper => k_is)
    (case e6_NoKeeper => k_is)
    (case e7_NoKeeper => k_is)
    (case e8_NoKeeper => k_is)
    (case r_NoKeeper_LeaseError => kts_exm)
    (case i_NoKeeper_BadTerms => kit_is)
    (case i_NoKeeper_Back => kit_is)
    (case i_NoKeeper_NoKeeper => kit_is)
    (case i_NoKeeper_NotAsked => kit_is)
    (case i_NoKeeper_ValueError => kit_is)
    (case e1_NotAsked => k_is)
    (case e2_NotAsked => k_is)
    (case e3_NotAsked => k_is)
    (case e4_NotAsked => k_is)
    (case e5_NotAsked => k_is)
    (case e6_NotAsked => k_is)
    (case e7_NotAsked => k_is)
    (case e8_NotAsked => k_is)
    (case r_NotAsked_LeaseError => kts_exm)
    (case i_NotAsked_BadTerms => kit_is)
    (case i_NotAsked_Back => kit_is)
    (case i_NotAsked_NoKeeper => kit_is)
    (case i_NotAsked_NotAsked => kit_is)
    (case i_NotAsked_ValueError => kit_is)
    (case m_MOST_STEP => k_is)
    (case m_MOST_LENGTH => k_is)
    (case m_MOST_KEEPERS => k_is)
    (case z_len => k_is)
    (case z_list => k_is)
    (case z_max => k_is)
    (case z_range => k_is)
    (case z_sorted => k_is)
#print axioms PySem.Challenge.cw_leasehold_k11_alone_holds
